import Derived.Test.YtddkhnclmeikfaaGreatLj
set_option maxRecDepth 100000
set_option maxHeartbeats 4000000
namespace Go.Proofs.YtddkhnclmeikfaaGreat
open Go.RowKit
attribute [local go_sem ↓] Go.wp_at_zero Go.wp_at_succ
variable{w:World}{B g kr kc br bc b:Nat}{x:Hp}{ar ac:Option Addr}{vg:Value}{pb pk role:Nat->Nat}{pa:Nat->Option Addr}
theorem c7p(y:Wd)(b:Nat)(w:World)(k2:(y.k == 2)=false):
  Calls Tryz.prog 138 #[.pointer (some ⟨b,0,none⟩),y.v] w λe w'=>e=.returned y.v/\Ext w w':=by
 go_enter Tryz.func138,Tryz.ntmps138;go_wp2_with fail;go_quiet (fail);go_wp2_with fail;refine bodyPost_ret (v:=y.v) (by simp [results,Tryz.results138,go_sem]) rfl ⟨rfl,?_⟩
 repeat (first | exact Ext.refl _ | refine Ext.drewN ?_ _ | refine Ext.alloc ?_ _ | refine Ext.setCell ?_ (by show w.heap.size<=w.heap.size+1;omega) _)
theorem c4k(b bc n kc i:Nat)(st:Int)(w:World)(c4:w.cell? ⟨b,4,none⟩=some (.slice (some ⟨bc,0,none⟩) n kc))(p0:w.cell? ⟨bc,i*8,none⟩=some (iv st))(hi:i<n)(s2:(st == 2)=false):
  Calls Tryz.prog 138 #[.pointer (some ⟨b,0,none⟩),.agg #[iv 2,iv 0,iv i]] w λe w'=>e=.returned (.agg #[iv 2,iv 0,iv i])/\Ext w w':=by
 have hb:b<w.heap.size:=uL c4;have hb':bc<w.heap.size:=uL p0;have i0:(0:Int)<=(i:Int):=by omega
 have i1:(i:Int)<(n:Int):=by omega
 go_enter Tryz.func138,Tryz.ntmps138;go_wp2_with fail;go_quiet (fail);go_wp2_with fail;refine bodyPost_ret (v:=.agg #[iv 2,iv 0,iv i]) (by simp [results,Tryz.results138,go_sem]) rfl ⟨rfl,?_⟩
 repeat (first | exact Ext.refl _ | refine Ext.drewN ?_ _ | refine Ext.alloc ?_ _ | refine Ext.setCell ?_ (by show w.heap.size<=w.heap.size+1;omega) _)
theorem c1e(b bc n kc i:Nat)(st tv:Int)(w:World)(c4:w.cell? ⟨b,4,none⟩=some (.slice (some ⟨bc,0,none⟩) n kc))(p0:w.cell? ⟨bc,i*8,none⟩=some (iv st))(p6:w.cell? ⟨bc,i*8+6,none⟩=some (iv tv))(hi:i<n)(s2:(st == 2)=true):
  Calls Tryz.prog 138 #[.pointer (some ⟨b,0,none⟩),.agg #[iv 2,iv 0,iv i]] w λe w'=>e=.returned (.agg #[iv 2,iv 0,iv tv])/\Ext w w':=by
 have hb:b<w.heap.size:=uL c4;have hb':bc<w.heap.size:=uL p0;have i0:(0:Int)<=(i:Int):=by omega
 have i1:(i:Int)<(n:Int):=by omega
 go_enter Tryz.func138,Tryz.ntmps138;go_wp2_with fail;go_quiet (fail);go_wp2_with fail
 go_region
 all_goals
  go_wp2_with fail;refine bodyPost_ret (v:=.agg #[iv 2,iv 0,iv tv]) (by simp [results,Tryz.results138,go_sem]) rfl ⟨rfl,?_⟩
  repeat (first | exact Ext.refl _ | refine Ext.drewN ?_ _ | refine Ext.drew ?_ | refine Ext.alloc ?_ _ | refine Ext.setCell ?_ (by show w.heap.size<=w.heap.size+1;omega) _)
theorem a4q[Inhabited uQ](y:Wd)(w:World)(h:GAt B w g x ar kr ac kc vg br bc pb pa pk role)(hy:uE y x.A.length):
  Calls Tryz.prog 138 #[.pointer (some ⟨g,0,none⟩),y.v] w λe w'=>e=.returned (qX x y).v/\Ext w w':=by
 cases q:(y.k == 2)
 ·have e:qX x y=y:=by
   unfold qX;rw[if_neg];intro h;simp [h.1] at q
  rw[e];exact c7p y g w q
 ·have hk:y.k=2:=by simpa using q
  obtain⟨k,n,a⟩:=y;simp only at hk;subst hk;unfold uE at hy;simp only at hy;obtain⟨i,rfl⟩:∃i:Nat,a=(i:Int):=⟨a.toNat,by omega⟩;obtain rfl:n=0:=by omega
  have hi:i<x.A.length:=by omega
  have hn:0<x.A.length:=by omega
  have c4:=h.bx.2.2.2.2.1;rw[h.hc hn] at c4;obtain⟨p0,_,_,_,_,_,p6⟩:=h.rw.s i hi;have ei:((i:Int)).toNat=i:=by omega
  cases q2:((x.c i).st == 2)
  ·have e:qX x ⟨2,0,i⟩=⟨2,0,i⟩:=by
    unfold qX;rw[if_neg];intro h;simp only [ei] at h;simp [h.2] at q2
   rw[e];exact c4k g bc _ kc i _ w c4 p0 hi q2
  ·have e:qX x ⟨2,0,i⟩=⟨2,0,(x.c i).to⟩:=by
    unfold qX;simp only [ei];rw[if_pos ⟨trivial,by simpa using q2⟩]
   rw[e];exact c1e g bc _ kc i _ _ w c4 p0 p6 hi q2
theorem GAt.setp[Inhabited uQ]{w':World}(h:GAt B w g x ar kr ac kc vg br bc pb pa pk role)(i:Nat)(hi:i<x.A.length)(k:Nat)(hk:k<(x.c i).F.length)(p':Pr)(o:uZ (λq=>q=pb i) w w')(nf:Nf1 (pb i) w')(hp:tQ w' (pb i) (k*6) p')(ho:∀j,(j<k*6\/k*6+6<=j)->w'.cell? ⟨pb i,j,none⟩=w.cell? ⟨pb i,j,none⟩):
  GAt B w' g { x with A:=x.A.set i { x.c i with F:=(x.c i).F.set k p' } } ar kr ac kc vg br bc pb pa pk role:=by
 have hl0:0<(x.c i).F.length:=by omega
 have ri:=h.sp.p i hi (h.rw.pw hi hl0);have far:∀q,q<w.heap.size->role q≠6+i->w'.heap[q]?=w.heap[q]?:=λq hq hr=>o.block q hq (λe=>hr (by rw[e];exact ri))
 have hn:0<x.A.length:=by omega
 have hl:({ x with A:=x.A.set i { x.c i with F:=(x.c i).F.set k p' } }:Hp).A.length=x.A.length:=by simp
 have hc:=Hp.c_set x i { x.c i with F:=(x.c i).F.set k p' } hi;have hne:∀q,q≠i->(({ x with A:=x.A.set i { x.c i with F:=(x.c i).F.set k p' } }:Hp).c q)=x.c q:=λq e=>by rw[hc q,if_neg e]
 have hei:(({ x with A:=x.A.set i { x.c i with F:=(x.c i).F.set k p' } }:Hp).c i)={ x.c i with F:=(x.c i).F.set k p' }:=by rw[hc i,if_pos rfl]
 have hpl:∀q,(({ x with A:=x.A.set i { x.c i with F:=(x.c i).F.set k p' } }:Hp).c q).F.length=(x.c q).F.length:=λq=>by
  by_cases e:q=i
  ·rw[e,hei];simp
  ·rw[hne q e]
 have fg:=far g h.nf.1 (by rw[h.sp.g];omega);have fc:=far bc (h.rw.nc hn).1.1 (by rw[h.sp.c hn];omega);have pf:∀q,q<x.A.length->q≠i->0<pk q->w'.heap[pb q]?=w.heap[pb q]?:=λq hq hqi hl=>far (pb q) (h.rw.pl q hq hl).2.1.1 (by rw[h.sp.p q hq hl];omega)
 refine⟨?_,uV h.nf fg o.size,h.lo,h.ha,λ_=>h.hc hn,⟨λj hj=>?_,λq hq=>?_,λq hq=>?_,λq hq j hj=>?_,λq hq hlq=>?_,λhr=>⟨uV (h.rw.nr hr).1 (far br (h.rw.nr hr).1.1 (by rw[h.sp.r hr];omega)) o.size,(h.rw.nr hr).2⟩,λ_=>⟨uV (h.rw.nc hn).1 fc o.size,(h.rw.nc hn).2⟩,λ_=>h.rw.d hn,λq q' hq hq' hne h1 h2=>?_,λq hq=>?_⟩,h.gr.block (λq hq=>far q (h.gr.lt q hq).2 (by rw[h.sp.y q hq];omega)),⟨h.sp.g,h.sp.r,λ_=>h.sp.c hn,h.sp.y,λq hq hlq=>?_⟩,by rw[hl];exact h.kl,h.pr.of (λq hq h1=>far q hq (by rw[h1];omega)) (λ_ _ h=>h),λhk=>(h.cc hk).block rfl (far bc (h.cc hk).nf.1 (by rw[(h.cc hk).ro];omega)) o.size⟩
 ·rw[hl];exact(h.bx.block fg)
 ·exact(h.rw.r j hj).of λm _=>World.cell?_of_block (a:=⟨br,_,none⟩) (far br (h.rw.nr (by have:j<x.B.length:=hj;omega)).1.1 (by rw[h.sp.r (by have:j<x.B.length:=hj;omega)];omega))
 ·rw[hl] at hq;have key:S7 w' bc (q*8) (x.c q):=(h.rw.s q hq).of λm _=>World.cell?_of_block (a:=⟨bc,_,none⟩) fc
  by_cases e:q=i
  ·subst e;rw[hei];exact key
  ·rw[hne q e];exact key
 ·rw[hl] at hq;rw[hpl q,World.cell?_of_block (a:=⟨bc,_,none⟩) fc];exact h.rw.p7 q hq
 ·rw[hl] at hq;rw[hpl q] at hj;by_cases e:q=i
  ·subst e;rw[hei];by_cases ej:j=k
   ·subst ej;have:({ x.c q with F:=(x.c q).F.set j p' }:Cl).p j=p':=by simp [Cl.p,hj]
    rw[this];exact hp
   ·have:({ x.c q with F:=(x.c q).F.set k p' }:Cl).p j=(x.c q).p j:=by
     have hkj:k≠j:=λe=>ej e.symm
     simp [Cl.p,List.getElem?_set_ne hkj]
    rw[this];exact(h.rw.p q hq j hj).of λm hm=>ho _ (by omega)
  ·rw[hne q e];exact(h.rw.p q hq j hj).of λm _=>World.cell?_of_block (a:=⟨pb q,_,none⟩) (pf q hq e (h.rw.pw hq (by omega)))
 ·rw[hl] at hq;obtain⟨a1,a2,a3⟩:=h.rw.pl q hq hlq;by_cases e:q=i
  ·subst e;exact⟨a1,b8g a2 nf hp ho,a3⟩
  ·exact⟨a1,a0f a2 (pf q hq e hlq) o.size,a3⟩
 ·rw[hl] at hq hq';exact h.rw.dp q q' hq hq' hne h1 h2
 ·rw[hl] at hq;rw[hpl q];exact h.rw.kp q hq
 ·rw[hl] at hq;exact h.sp.p q hq hlq
theorem b2t(x:Hp)(k:Nat)(hk:k<x.A.length)(h0:∀q,q<k->(x.c q).st≠0)(h1:(x.c k).st=0):cH x=k:=by
 obtain⟨_,a,b⟩:=a0o x;rcases Nat.lt_trichotomy (cH x) k with e | e | e
 ·exact absurd (b (by omega)) (h0 _ e)
 ·exact e
 ·exact absurd h1 (a k e)
theorem c1f(x:Hp)(h0:∀q,q<x.A.length->(x.c q).st≠0):cH x=x.A.length:=by
 obtain⟨a,_,b⟩:=a0o x;rcases Nat.lt_or_ge (cH x) x.A.length with e | e
 ·exact absurd (b e) (h0 _ e)
 ·omega
theorem b2u[Inhabited uQ](h:GAt B w g x ar kr ac kc vg br bc pb pa pk role)(n8:x.A.length<=8000):
  Calls Tryz.prog 233 #[.pointer (some ⟨g,0,none⟩)] w λe w'=>e=.returned (.int .i64 (cH x))/\Ext w w':=by
 have H:=uU h;have c4:=h.bx.2.2.2.2.1;have hgw:g<w.heap.size:=uL c4;clear h;go_enter Tryz.func233,Tryz.ntmps233;go_wp2_with fail;go_loopw [10] (λi wr=>∃k:Nat,k<=x.A.length/\i=.int .i64 k/\Hid (∀q,q<k->(x.c q).st≠0)/\Ext w wr) (λi _=>x.A.length-(intOf i).toNat)
 case atStart=>exact⟨0,Nat.zero_le _,rfl,(λq hq=>by omega),Ext.refl _⟩
 case round=>
  obtain⟨k,hk,rfl,h0,hxr⟩:=hrel;by_cases hlt:k<x.A.length
  ·have hn:0<x.A.length:=by omega
   have Hr:=uU (H.ext hxr);obtain⟨p0,p1,p2,p3,p4,p5,p6⟩:=Hr.rw.s k hlt;have p7:=Hr.rw.p7 k hlt;have hbc:bc<wr.heap.size:=uL p0;obtain rfl:ac=some ⟨bc,0,none⟩:=H.hc hn;have k0:(0:Int)<=(k:Int):=by omega
   have k1:(k:Int)<(x.A.length:Int):=by omega
   clear c4;cases q:((x.c k).st == 0)
   ·have Q:=uU (show ∀q,q<k+1->(x.c q).st≠0 from λq hq=>by
     by_cases e:q=k
     ·rw[e];simpa using ‹((x.c k).st == 0)=false›
     ·exact h0 q (by omega))
    go_wp2_with fail;go_roundw
    case rel=>exact⟨k+1,by omega,by go_num,Q,hxr.alloc _⟩
    case measure=>simp [intOf];omega
   ·have Q:=uU (b2t x k hlt h0 (by simpa using q));go_wp2_with fail;go_ret;exact⟨by rw[uH Q];rfl,hxr.alloc _⟩
  ·have Q:=uU (show cH x=x.A.length from c1f x (λq hq=>uH h0 q (by omega)));have hk2:k=x.A.length:=by omega
   subst hk2;have d4:=hxr.keep c4;clear c4;go_wp2_with fail;go_ret;exact⟨by rw[uH Q];rfl,hxr⟩
def qE(w:World)(b o:Nat)(c:Cl)(v:Value):World:=(((((((w.setCell ⟨b,o,none⟩ (iv c.st)).setCell ⟨b,o+1,none⟩ (iv c.kind)).setCell ⟨b,o+2,none⟩ (iv c.T)).setCell ⟨b,o+3,none⟩ (iv c.U)).setCell ⟨b,o+4,none⟩ (iv c.born)).setCell ⟨b,o+5,none⟩ (iv c.J)).setCell ⟨b,o+6,none⟩ (iv c.to)).setCell ⟨b,o+7,none⟩ v
theorem b2v(w:World)(b o:Nat)(c:Cl)(v:Value):(qE w b o c v).drew=qE w.drew b o c v:=by
 have key:∀(W:World) (p:Addr) (u:Value),(W.setCell p u).drew=W.drew.setCell p u:=λ_ _ _=>rfl
 unfold qE;simp only [key]
theorem a0h(w:World)(b o:Nat)(c:Cl)(v:Value):uZ (λq=>q=b) w (qE w b o c v):=
 uZ.setCell (S:=λq=>q=b) (uZ.setCell (S:=λq=>q=b) (uZ.setCell (S:=λq=>q=b) (uZ.setCell (S:=λq=>q=b) (uZ.setCell (S:=λq=>q=b) (uZ.setCell (S:=λq=>q=b) (uZ.setCell (S:=λq=>q=b) (uZ.setCell (S:=λq=>q=b) (uZ.refl _ w) (p:=⟨b,o,none⟩) rfl _) (p:=⟨b,o+1,none⟩) rfl _) (p:=⟨b,o+2,none⟩) rfl _) (p:=⟨b,o+3,none⟩) rfl _) (p:=⟨b,o+4,none⟩) rfl _) (p:=⟨b,o+5,none⟩) rfl _) (p:=⟨b,o+6,none⟩) rfl _) (p:=⟨b,o+7,none⟩) rfl _
theorem a4r(h:Nf1 b w)(o:Nat)(c:Cl)(v:Value):Nf1 b (qE w b o c v):=(((((((h.set _ _).set _ _).set _ _).set _ _).set _ _).set _ _).set _ _).set _ _
theorem a3a(w:World)(b o:Nat)(c:Cl)(v:Value)(k:Nat)(hk:k<o\/o+8<=k):(qE w b o c v).cell? ⟨b,k,none⟩=w.cell? ⟨b,k,none⟩:=by
 unfold qE
 iterate 8 rw[uC _ (.inr (by omega))]
theorem a8h(w:World)(b o:Nat)(c d:Cl)(v u:Value)(h:S7 w b o d)(h7:w.cell? ⟨b,o+7,none⟩=some u):S7 (qE w b o c v) b o c/\(qE w b o c v).cell? ⟨b,o+7,none⟩=some v:=by
 obtain⟨a0,a1,a2,a3,a4,a5,a6⟩:=h;unfold qE;refine⟨⟨?_,?_,?_,?_,?_,?_,?_⟩,?_⟩
 ·iterate 7 rw[uC _ (.inr (by omega))]
  exact dX a0
 ·iterate 6 rw[uC _ (.inr (by omega))]
  exact dX ((uC _ (.inr (by omega))).trans a1)
 ·iterate 5 rw[uC _ (.inr (by omega))]
  refine dX (u:=iv d.T) ?_
  iterate 2 rw[uC _ (.inr (by omega))]
  exact a2
 ·iterate 4 rw[uC _ (.inr (by omega))]
  refine dX (u:=iv d.U) ?_
  iterate 3 rw[uC _ (.inr (by omega))]
  exact a3
 ·iterate 3 rw[uC _ (.inr (by omega))]
  refine dX (u:=iv d.born) ?_
  iterate 4 rw[uC _ (.inr (by omega))]
  exact a4
 ·iterate 2 rw[uC _ (.inr (by omega))]
  refine dX (u:=iv d.J) ?_
  iterate 5 rw[uC _ (.inr (by omega))]
  exact a5
 ·rw[uC _ (.inr (by omega))];refine dX (u:=iv d.to) ?_
  iterate 6 rw[uC _ (.inr (by omega))]
  exact a6
 ·refine dX (u:=u) ?_
  iterate 7 rw[uC _ (.inr (by omega))]
  exact h7
def b1n(x:Hp)(t f:Nat):Hp:={ x with A:=(x.A.set t (x.c f)).set f (mvC t) }
theorem c1g[Inhabited uQ](h:GAt B w g x ar kr ac kc vg br bc pb pa pk role)(t f:Nat)(htf:t≠f)(ht:t<x.A.length)(hf:f<x.A.length):
  ∃pb' pa' pk' role',GAt B (zZ (qE w bc (t*8) (x.c f) (.slice (pa f) (x.c f).F.length (pk f))) bc (f*8) 2 t) g (b1n x t f) ar kr ac kc vg br bc pb' pa' pk' role':=by
 have hn:0<x.A.length:=by omega
 obtain⟨k1,k2⟩:=a8h w bc (t*8) (x.c f) (x.c t) (.slice (pa f) (x.c f).F.length (pk f)) _ (h.rw.s t ht) (h.rw.p7 t ht);have o1:=a3a w bc (t*8) (x.c f) (.slice (pa f) (x.c f).F.length (pk f));have s2:S7 (qE w bc (t*8) (x.c f) (.slice (pa f) (x.c f).F.length (pk f))) bc (f*8) (x.c f):=(h.rw.s f hf).of λj hj=>o1 _ (by omega)
 have s7:=(o1 (f*8+7) (by omega)).trans (h.rw.p7 f hf);obtain⟨m1,m2⟩:=a4p (qE w bc (t*8) (x.c f) (.slice (pa f) (x.c f).F.length (pk f))) bc (f*8) 2 t _ _ s2 s7;have o2:=a3x (qE w bc (t*8) (x.c f) (.slice (pa f) (x.c f).F.length (pk f))) bc (f*8) 2 t;refine h.move t f htf ht hf ((a0h _ _ _ _ _).trans (a0g _ _ _ _ _)) (a9j (a4r (h.rw.nc hn).1 _ _ _) _ _ _) ?_ ?_ m1 m2 (λq hq h1 h2 k hk=>?_) (λj hj=>by rw[o2 _ (by omega),o1 _ (by omega)])
 ·exact k1.of λj hj=>o2 _ (by omega)
 ·rw[o2 _ (by omega)];exact k2
 ·rw[o2 _ (by omega),o1 _ (by omega)]
theorem mvd_c(x:Hp)(t f:Nat)(ht:t<x.A.length)(hf:f<x.A.length)(q:Nat):(b1n x t f).c q=if q=f then mvC t else if q=t then x.c f else x.c q:=by
 have h1:=Hp.c_set { x with A:=x.A.set t (x.c f) } f (mvC t) (by simpa using hf) q;have h2:=Hp.c_set x t (x.c f) ht q;have e:b1n x t f={ ({ x with A:=x.A.set t (x.c f) }:Hp) with A:=({ x with A:=x.A.set t (x.c f) }:Hp).A.set f (mvC t) }:=rfl;rw[e,h1];by_cases e1:q=f
 ·rw[if_pos e1,if_pos e1]
 ·rw[if_neg e1,if_neg e1];exact h2
def yC(x:Hp)(t f j:Nat):Hp:={ b1n x t f with B:=(x.B.take j).map (mvW t f)++x.B.drop j }
theorem res_mv(x:Hp)(t f j:Nat)(ht:t<x.A.length)(hf:f<x.A.length)(h0:(x.c t).st=0)(r:Wd)(hr:cL x r False):qX (yC x t f j) r=mvW t f r:=by
 have hc:∀q,(yC x t f j).c q=(b1n x t f).c q:=λ_=>rfl
 unfold qX mvW;rw[hc,mvd_c x t f ht hf];by_cases hk:r.k=2
 ·have h1:(x.c r.a.toNat).st=1:=by
   rcases hr.2 hk with h | h
   ·exact h.2.elim
   ·exact h.1
  have ha:0<=r.a:=by have:=hr.1;unfold uE at this;omega
  by_cases e:r.a.toNat=f
  ·have ea:r.a=(f:Int):=by omega
   rw[if_pos e,if_pos ⟨hk,rfl⟩,if_pos ⟨hk,ea⟩];rfl
  ·have ea:¬r.a=(f:Int):=by omega
   have et:¬r.a.toNat=t:=λe2=>by rw[e2] at h1;omega
   rw[if_neg e,if_neg et,if_neg (λh=>by have:=h.2;omega),if_neg (λh=>ea h.2)]
 ·rw[if_neg (λh=>hk h.1),if_neg (λh=>hk h.1)]
theorem mvdR_at(x:Hp)(t f j:Nat)(hj:j<x.B.length):∃h:j<(yC x t f j).B.length,(yC x t f j).B[j]=x.B[j]:=by
 have hl:j<(yC x t f j).B.length:=by simp [yC];omega
 refine⟨hl,?_⟩;simp only [yC];rw[List.getElem_append_right (by simp;omega)];simp [Nat.min_eq_left (Nat.le_of_lt hj)]
theorem c4m(x:Hp)(t f j:Nat)(hj:j<x.B.length):({ yC x t f j with B:=(yC x t f j).B.set j (mvW t f x.B[j]) }:Hp)=yC x t f (j+1):=by
 have:(yC x t f j).B.set j (mvW t f x.B[j])=(yC x t f (j+1)).B:=by
  simp only [yC];rw[List.set_append_right _ _ (by simp;omega),List.take_succ_eq_append_getElem hj,List.map_append];simp only [List.length_map,List.length_take,Nat.min_eq_left (Nat.le_of_lt hj),Nat.sub_self];have hd:=List.drop_eq_getElem_cons hj;rw[hd];simp only [List.set_cons_zero,List.map_cons,List.map_nil,List.append_assoc,List.singleton_append]
 rw[this];rfl
theorem c4n(x:Hp)(t f:Nat):yC x t f 0=b1n x t f:=by simp [yC,b1n]
theorem c7q(x:Hp)(t f:Nat):yC x t f x.B.length=eU x t f:=by simp [yC,b1n,eU]
def dV(w:World)(b o:Nat)(y:Wd):World:=((w.setCell ⟨b,o,none⟩ (iv y.k)).setCell ⟨b,o+1,none⟩ (iv y.n)).setCell ⟨b,o+2,none⟩ (iv y.a)
theorem a6g(w:World)(b o:Nat)(y z:Wd)(h:yQ w b o z):yQ (dV w b o y) b o y:=by
 obtain⟨h0,h1,h2⟩:=h;unfold dV;refine⟨?_,?_,?_⟩
 ·iterate 2 rw[uC _ (.inr (by omega))]
  exact dX h0
 ·rw[uC _ (.inr (by omega))];exact dX ((uC _ (.inr (by omega))).trans h1)
 ·refine dX (u:=iv z.a) ?_
  iterate 2 rw[uC _ (.inr (by omega))]
  exact h2
theorem a0e(w:World)(b o:Nat)(y:Wd):uZ (λq=>q=b) w (dV w b o y):=
 uZ.setCell (S:=λq=>q=b) (uZ.setCell (S:=λq=>q=b) (uZ.setCell (S:=λq=>q=b) (uZ.refl _ w) (p:=⟨b,o,none⟩) rfl _) (p:=⟨b,o+1,none⟩) rfl _) (p:=⟨b,o+2,none⟩) rfl _
theorem b2w(h:Nf1 b w)(o:Nat)(y:Wd):Nf1 b (dV w b o y):=((h.set _ _).set _ _).set _ _
theorem a0u(w:World)(b o:Nat)(y:Wd)(k:Nat)(hk:k<o\/o+3<=k):(dV w b o y).cell? ⟨b,k,none⟩=w.cell? ⟨b,k,none⟩:=by
 unfold dV
 iterate 3 rw[uC _ (.inr (by omega))]
theorem c1h[Inhabited uQ](B g:Nat)(x:Hp)(w:World)(h:GOk B w g x)(s:Snd x)(a:World)(ha:a.heap.size<=B)(hx:Ext a w):
  Calls Tryz.prog 190 #[.pointer (some ⟨g,0,none⟩)] w λe w'=>e=.returned (.tuple #[])/\GOk B w' g (unit4 x)/\Ext a w':=by
 obtain⟨ar,kr,ac,kc,vg,br,bc,pb,pa,pk,role,h⟩:=h;have H:=uU h;have n8:=s.ok.n8;have lo:=h.lo;have S:=uU s;have c4:=h.bx.2.2.2.2.1;have FT:=uU (a0o x);obtain⟨t,ht⟩:∃t,t=cH x:=⟨_,rfl⟩;have HT:=uU ht;have EU:=uU (show unit4 x=if a1k x x.A.length<=(t:Int) then dN x 5 0 else eU x t (a1k x x.A.length).toNat by unfold unit4;rw[<-ht]);have QF:=uU (b2u h n8);rw[<-ht] at QF FT;have hwr:wrap64 ((x.A.length:Int)-1)=(x.A.length:Int)-1:=a2e _ (by omega) (by omega);have LU:=uU (a0w x);have r0:0<x.B.length:=by have:=s.r1.B;omega
 have r16:x.B.length<=16:=by have:=s.r1.B;omega
 clear h s ht;go_enter Tryz.func190,Tryz.ntmps190;go_wp2_with fail;refine QF.mono ?_;rintro e w1 ⟨rfl,x1⟩;have H1:=uU (H.ext x1);have d4:=x1.keep c4;have hgw:g<w1.heap.size:=uL d4;have X1:=hx.trans x1;clear c4 QF H hx x1;go_wp2_with fail;go_loopw [3] (λfr wr=>∃m:Nat,m<=x.A.length/\fr=.int .i64 ((m:Int)-1)/\Hid (∀q,m<=q->q<x.A.length->(x.c q).st≠1)/\Ext w1 wr) (λfr _=>(intOf fr+1).toNat)
 case atStart=>exact⟨x.A.length,Nat.le_refl _,rfl,(λq h1 h2=>by omega),Ext.refl _⟩
 case round=>
  obtain⟨m,hm,rfl,hno,hxr⟩:=hrel;cases m with
  | zero=>
   have e4:=hxr.keep d4;have tn:((t:Int)≥-1)=True:=by simp
   have LE:=uU (show a1k x x.A.length = -1 by
    rcases uH LU x.A.length with⟨e,_⟩ | ⟨f,_,hf,h1,_⟩
    ·exact e
    ·exact absurd h1 (hno f (Nat.zero_le _) hf))
   clear d4;have EF:=uU (show unit4 x=dN x 5 0 by rw[uH EU,if_pos (by rw[uH LE];omega)]);go_wp2_with fail;refine(a1a B g x 5 0 _ ⟨_,_,_,_,_,_,_,_,_,_,_,H1.ext hxr⟩ a ha (X1.trans hxr)).mono ?_;rintro e w3 ⟨rfl,h3,x3⟩;have H3:=uU h3;clear h3;go_wp2_with fail
   try simp only [Exit.inBlock,Exit.then]
   refine bodyPost_ret (results_none rfl _ _ _) rfl ?_;exact⟨rfl,by rw[uH EF];exact uH H3,x3⟩
  | succ f=>
   have hfn:f<x.A.length:=by omega
   have hn:0<x.A.length:=by omega
   have ef:(((f+1:Nat):Int)-1)=(f:Int):=by omega
   rw[ef];have e4:=hxr.keep d4;rw[H1.hc hn] at e4;have e0:=((H1.ext hxr).rw.s f hfn).1;have hgr:g<wr.heap.size:=uL e4;have hbc:bc<wr.heap.size:=uL e0;have f0:(0:Int)<=(f:Int):=by omega
   have f1:(f:Int)<(x.A.length:Int):=by omega
   clear d4;cases q:((x.c f).st == 1)
   ·have qb:((x.c f).st != 1)=true:=by simpa using q
    have Q:=uU (show ∀q,f<=q->q<x.A.length->(x.c q).st≠1 from λq h1 h2=>by
     by_cases e:q=f
     ·rw[e];simpa using ‹((x.c f).st == 1)=false›
     ·exact hno q (by omega) h2)
    go_wp2_with fail;go_roundw
    case rel=>exact⟨f,by omega,by go_num,Q,hxr⟩
    case measure=>simp [intOf]
   ·have qb:((x.c f).st != 1)=false:=by simpa using q
    have LE:=uU (show a1k x x.A.length=(f:Int) by
     rcases uH LU x.A.length with⟨_,h1⟩ | ⟨f',e,hf,h1,h2⟩
     ·exact absurd (by simpa using q) (h1 f hfn)
     ·rcases Nat.lt_trichotomy f' f with e2 | e2 | e2
      ·exact absurd (by simpa using q) (h2 f e2 hfn)
      ·rw[e,e2]
      ·exact absurd h1 (hno f' (by omega) hf))
    by_cases htf:(t:Int)≥(f:Int)
    ·have EF:=uU (show unit4 x=dN x 5 0 by rw[uH EU,if_pos (by rw[uH LE];omega)]);go_wp2_with fail;refine(a1a B g x 5 0 _ ⟨_,_,_,_,_,_,_,_,_,_,_,H1.ext hxr⟩ a ha (X1.trans hxr)).mono ?_;rintro e w3 ⟨rfl,h3,x3⟩;have H3:=uU h3;clear h3;go_wp2_with fail
     try simp only [Exit.inBlock,Exit.then]
     refine bodyPost_ret (results_none rfl _ _ _) rfl ?_;exact⟨rfl,by rw[uH EF];exact uH H3,x3⟩
    ·have EF:=uU (show unit4 x=eU x t f by rw[uH EU,if_neg (by rw[uH LE];omega),uH LE];rfl);have HR:=uU (H1.ext hxr);have htn:t<x.A.length:=by omega
     obtain⟨a0,a1,a2,a3,a4,a5,a6⟩:=HR.rw.s f hfn;have a7:=HR.rw.p7 f hfn;obtain⟨b0,b1,b2,b3,b4,b5,b6⟩:=HR.rw.s t htn;have b7:=HR.rw.p7 t htn;have fc:=(HR.rw.nc hn).1.2;have t0:(0:Int)<=(t:Int):=by omega
     have t1:(t:Int)<(x.A.length:Int):=by omega
     have XR:=X1.trans hxr;have NGC:=uU (show ¬g=bc from λe=>by have h1:=HR.sp.g;have h2:=HR.sp.c hn;rw[e] at h1;omega);have ngc:¬g=bc:=uH NGC;have ncg:¬bc=g:=λe=>uH NGC e.symm
     have nof:¬f*8=t*8:=by omega
     clear e0 hxr H1 hno;go_wp2_with fail
     go_region
     all_goals
      obtain⟨W5,hW5⟩:∃W,W=(qE wr bc (t*8) (x.c f) (.slice (pa f) (x.c f).F.length (pk f))).drew:=⟨_,rfl⟩;have W5E:=uU (show W5=qE wr.drew bc (t*8) (x.c f) (.slice (pa f) (x.c f).F.length (pk f)) by rw[hW5,b2v]);have O5:=a3a wr.drew bc (t*8) (x.c f) (.slice (pa f) (x.c f).F.length (pk f))
      have d4:W5.cell? ⟨g,4,none⟩=some (.slice (some ⟨bc,0,none⟩) x.A.length kc):=by
       rw[uH W5E,World.cell?_of_block (a:=⟨g,4,none⟩) ((a0h wr.drew bc (t*8) (x.c f) _).block g (by simpa using hgr) (by omega))];exact e4
      have g3:W5.cell? ⟨g,3,none⟩=some (.slice (some ⟨br,0,none⟩) x.B.length kr):=by
       rw[uH W5E,World.cell?_of_block (a:=⟨g,3,none⟩) ((a0h wr.drew bc (t*8) (x.c f) _).block g (by simpa using hgr) (by omega))];have:=HR.bx.2.2.2.1;rw[HR.ha r0] at this;exact this
      have d0:W5.cell? ⟨bc,f*8,none⟩=some (iv (x.c f).st):=by rw[uH W5E,O5 _ (by omega)];exact a0
      have d1:W5.cell? ⟨bc,f*8+1,none⟩=some (iv (x.c f).kind):=by rw[uH W5E,O5 _ (by omega)];exact a1
      have d2:W5.cell? ⟨bc,f*8+2,none⟩=some (iv (x.c f).T):=by rw[uH W5E,O5 _ (by omega)];exact a2
      have d3:W5.cell? ⟨bc,f*8+3,none⟩=some (iv (x.c f).U):=by rw[uH W5E,O5 _ (by omega)];exact a3
      have dd4:W5.cell? ⟨bc,f*8+4,none⟩=some (iv (x.c f).born):=by rw[uH W5E,O5 _ (by omega)];exact a4
      have d5:W5.cell? ⟨bc,f*8+5,none⟩=some (iv (x.c f).J):=by rw[uH W5E,O5 _ (by omega)];exact a5
      have d6:W5.cell? ⟨bc,f*8+6,none⟩=some (iv (x.c f).to):=by rw[uH W5E,O5 _ (by omega)];exact a6
      have d7:W5.cell? ⟨bc,f*8+7,none⟩=some (.slice (pa f) (x.c f).F.length (pk f)):=by rw[uH W5E,O5 _ (by omega)];exact a7
      have fc5:∀j,W5.frozen? ⟨bc,j,none⟩=false:=by rw[uH W5E];exact(a4r (w:=wr.drew) (uV (HR.rw.nc hn).1 rfl (by simp)) _ _ _).2
      have hg5:g<W5.heap.size:=uL d4;have hb5:bc<W5.heap.size:=uL d0;have X5:Ext a W5:=by rw[uH W5E];exact(a0h wr.drew bc (t*8) (x.c f) _).ext XR.drew (λq hq e=>by have:=(HR.rw.nc hn).2;omega)
      unfold qE at hW5;rw[<-hW5];clear hW5 O5 a0 a1 a2 a3 a4 a5 a6 a7 b0 b1 b2 b3 b4 b5 b6 b7 fc e4 hgr hbc XR q qb ef hm nof LE EU LU HT hwr hgw X1 n8 lo t0 f0;have FT0:=uU FT;have LTS:=uU (show t<x.A.length/\f<x.A.length/\t≠f by omega);clear FT htf htn hfn;have T0:=uU (show(x.c t).st=0 from FT0.2.2 LTS.1)
      have G6:=uU (show Hid (∃pb' pa' pk' role',GAt B (zZ W5 bc (f*8) 2 t) g (yC x t f 0) ar kr ac kc vg br bc pb' pa' pk' role') by
       rw[c4n,uH W5E];exact c1g (HR.ext (Ext.refl wr).drew) t f LTS.2.2 LTS.1 LTS.2.1)
      have X6:Ext a (zZ W5 bc (f*8) 2 t):=(a0g W5 bc (f*8) 2 t).ext X5 (λq hq e=>by have:=(HR.rw.nc hn).2;omega);obtain⟨W6,hW6⟩:∃W,W=zZ W5 bc (f*8) 2 t:=⟨_,rfl⟩;rw[<-hW6] at G6 X6;unfold zZ at hW6;go_wp2_with fail;rw[<-hW6];clear hW6 d0 d1 d2 d3 d4 dd4 d5 d6 d7 fc5 hg5 hb5 g3 X5;go_loopw [59] (λi wr=>∃j:Nat,j<=x.B.length/\i=.int .i64 j/\Hid (∃pb' pa' pk' role',GAt B wr g (yC x t f j) ar kr ac kc vg br bc pb' pa' pk' role')/\Ext a wr) (λi _=>x.B.length-(intOf i).toNat)
      case atStart=>exact⟨0,Nat.zero_le _,rfl,G6,X6⟩
      case round=>
       obtain⟨j,hj,rfl,hG,hxr⟩:=hrel;by_cases hlt:j<x.B.length
       ·obtain⟨pb',pa',pk',role',hG⟩:=hG;obtain⟨hl,er⟩:=mvdR_at x t f j hlt;have RL:=uU (show(yC x t f j).B.length=x.B.length by simp [yC];omega);have CL:=uU (show(yC x t f j).A.length=x.A.length by simp [yC,b1n]);have HJ:=uU hG;have c3:=hG.bx.2.2.2.1;rw[hG.ha (by omega),uH RL] at c3;obtain⟨w0,w1,w2⟩:=hG.rw.r j hl;rw[er] at w0 w1 w2;have LD:=uU (S.r4.1 j hlt);have RS:=uU (res_mv x t f j LTS.1 LTS.2.1 T0 x.B[j] LD);have fb:=(hG.rw.nr (by omega)).1.2;have hgr:g<wr.heap.size:=uL c3;have hbr:br<wr.heap.size:=uL w0;have hbB:=(hG.rw.nr (by omega)).2;have j0:(0:Int)<=(j:Int):=by omega
        have j1:(j:Int)<(x.B.length:Int):=by omega
        clear hG er;obtain⟨rr,hrr⟩:∃r,r=mvW t f x.B[j]:=⟨_,rfl⟩;have SU:=uU (c4m x t f j hlt);rw[<-hrr] at RS SU;clear hrr
        have FN:=uU (show ∀W,Ext wr W->Hid (∃pb' pa' pk' role',GAt B (dV W br (j*3) rr) g (yC x t f (j+1)) ar kr ac kc vg br bc pb' pa' pk' role')/\Ext a (dV W br (j*3) rr) from λW xW=>by
         have g1:=HJ.ext xW;refine⟨⟨pb',pa',pk',role',?_⟩,(a0e W br (j*3) rr).ext (hxr.trans xW) (λq hq e=>by omega)⟩;rw[<-uH SU];exact g1.setr j hl rr (a0e _ _ _ _) (b2w (g1.rw.nr (by omega)).1 _ _) (a6g _ _ _ _ _ (g1.rw.r j hl)) (λm hm=>a0u _ _ _ _ m hm))
        unfold dV at FN;go_wp2_with fail;go_region_with (go_at_call 138;refine(a4q x.B[j] _ (HJ.ext (Ext.refl wr).drew) (by rw[uH CL];exact LD.1)).mono ?_;rintro e w5 ⟨rfl,x5⟩;rw[uH RS];have xw5:=Ext.trans (Ext.refl wr).drew x5;have k3:=xw5.keep c3;have k0:=xw5.keep w0;have k1:=xw5.keep w1;have k2:=xw5.keep w2;have kf:=λm=>((cD xw5).2 br m hbr).trans (fb m);have XW:=uU xw5;clear x5 xw5)
        all_goals
         go_wp2_with fail;go_roundw
         case rel=>exact⟨j+1,by omega,by go_num,(FN w5 XW).1,(FN w5 XW).2⟩
         case measure=>simp [intOf];omega
       ·have je:j=x.B.length:=by omega
        subst je;rw[c7q] at hG;go_wp2_with fail
        go_end0
        exact⟨rfl,by
         rw[uH EF];obtain⟨pb',pa',pk',role',hG⟩:=uH hG;exact⟨_,_,_,_,_,_,_,_,_,_,_,hG⟩,hxr⟩
theorem GOk.set11[Inhabited uQ](h:GOk B w g x)(v:Int):GOk B (w.setCell ⟨g,11,none⟩ (iv v)) g { x with Q:=v }:=by
 obtain⟨ar,kr,ac,kc,vg,br,bc,pb,pa,pk,role,h⟩:=h;exact⟨_,_,_,_,_,_,_,_,_,_,_,h.boxed (x':={ x with Q:=v }) (uZ.setCell (S:=λq=>q=g) (uZ.refl _ w) (p:=⟨g,11,none⟩) rfl _) (h.nf.set _ _) rfl rfl rfl (h.bx.set11 v)⟩
theorem b8k[Inhabited uQ](B g:Nat)(x:Hp)(w:World)(h:GOk B w g x)(s:Snd x)(a:World)(ha:a.heap.size<=B)(hx:Ext a w)(h0:x.I=0):
  Calls Tryz.prog 192 #[.pointer (some ⟨g,0,none⟩)] w λe w'=>e=.returned (.tuple #[])/\GOk B w' g (cN x)/\Ext a w':=by
 have HO:=uU h;obtain⟨c6,_,_,_,lo,hgw⟩:=h.box;rw[h0] at c6;have E:=uU (show cN x={ dN x 0 0 with Q:=if x.Q<1000000000 then x.Q+1 else x.Q } by unfold cN;rw[if_pos h0];rfl);have hr:=s.r1.Q;clear h h0 s;go_enter Tryz.func192,Tryz.ntmps192;go_wp2_with fail;refine(a1a B g x 0 0 _ HO a ha hx).mono ?_;rintro e w2 ⟨rfl,h2,x2⟩;have H2:=uU h2
 have c11:w2.cell? ⟨g,11,none⟩=some (iv x.Q):=by
  obtain⟨ar,kr,ac,kc,vg,br,bc,pb,pa,pk,role,h⟩:=h2;exact h.bx.2.2.2.2.2.2.2.2.2.2.2.1
 have f11:=(h2.box).2.2.2.1 11;have hgw2:g<w2.heap.size:=uL c11;clear h2;by_cases hlt:x.Q<1000000000
 ·have EF:=uU (show cN x={ dN x 0 0 with Q:=x.Q+1 } by rw[uH E,if_pos hlt]);have H3:=uU (H2.set11 (x.Q+1));have X3:=uU (x2.setCell (p:=⟨g,11,none⟩) (show a.heap.size<=g by omega) (iv (x.Q+1)));have wr:wrap64 (x.Q+1)=x.Q+1:=by unfold wrap64;omega
  go_wp2_with fail
  try simp only [Exit.inBlock,Exit.then]
  refine bodyPost_ret (results_none rfl _ _ _) rfl ?_;exact⟨rfl,by rw[uH EF];exact uH H3,X3⟩
 ·have EF:=uU (show cN x={ dN x 0 0 with Q:=x.Q } by rw[uH E,if_neg hlt]);go_wp2_with fail
  try simp only [Exit.inBlock,Exit.then]
  refine bodyPost_ret (results_none rfl _ _ _) rfl ?_;exact⟨rfl,by rw[uH EF];exact uH H2,x2⟩
theorem b6h[Inhabited uQ](B g:Nat)(x:Hp)(w:World)(h:GOk B w g x)(s:Snd x)(a:World)(ha:a.heap.size<=B)(hx:Ext a w)(i:Nat)(hi:x.I=(i:Int)+1):
  Calls Tryz.prog 192 #[.pointer (some ⟨g,0,none⟩)] w λe w'=>e=.returned (.tuple #[])/\GOk B w' g (cN x)/\Ext a w':=by
 obtain⟨ar,kr,ac,kc,vg,br,bc,pb,pa,pk,role,h⟩:=h;have H:=uU h;have c4:=h.bx.2.2.2.2.1;have c6:=h.bx.2.2.2.2.2.2.1;have hgw:g<w.heap.size:=uL c4;have lo:=h.lo;have n8:=s.ok.n8;have hin:i<x.A.length:=by have:=s.r1.I;omega
 have hn:0<x.A.length:=by omega
 rw[h.hc hn] at c4;rw[hi] at c6;have p0:=(h.rw.s i hin).1;have hbc:bc<w.heap.size:=uL p0;have f6:=h.nf.2 6
 have EU:=uU (show cN x=zU (dH x i) i by
  have e:(x.I-1).toNat=i:=by omega
  unfold cN;rw[if_neg (by omega),e])
 have NGC:=uU (show ¬g=bc from λe=>by have h1:=h.sp.g;have h2:=h.sp.c hn;rw[e] at h1;omega);have ngc:¬g=bc:=uH NGC;have ncg:¬bc=g:=λe=>uH NGC e.symm
 have h60:(((i:Int)+1) == 0)=false:=by simp;omega
 have i0:(0:Int)<=(i:Int):=by omega
 have i1:(i:Int)<(x.A.length:Int):=by omega
 have W1G:=uU (show GAt B (w.setCell ⟨g,6,none⟩ (iv i)) g { x with I:=(i:Int) } ar kr ac kc vg br bc pb pa pk role from h.boxed (x':={ x with I:=(i:Int) }) (uZ.setCell (S:=λq=>q=g) (uZ.refl _ w) (p:=⟨g,6,none⟩) rfl _) (h.nf.set _ _) rfl rfl rfl (h.bx.set6 _));have X1:=uU (hx.setCell (p:=⟨g,6,none⟩) (show a.heap.size<=g by omega) (iv i));clear h s hi;go_enter Tryz.func192,Tryz.ntmps192;go_wp2_with fail;obtain⟨W1,hW1⟩:∃W,W=w.setCell ⟨g,6,none⟩ (iv i):=⟨_,rfl⟩;rw[<-hW1] at W1G X1 ⊢;clear hW1 c4 c6 p0 f6 hbc;have c4:=W1G.bx.2.2.2.2.1;rw[H.hc hn] at c4;have c6:W1.cell? ⟨g,6,none⟩=some (iv i):=W1G.bx.2.2.2.2.2.2.1;have p0:W1.cell? ⟨bc,i*8,none⟩=some (iv (x.c i).st):=(W1G.rw.s i hin).1;have hgW:g<W1.heap.size:=uL c6;have hbc:bc<W1.heap.size:=uL p0;have f4:=W1G.nf.2 4;cases q2:((x.c i).st == 2)
 ·have EZ:=uU (show({ x with I:=(i:Int) }:Hp)=dH x i by unfold dH;rw[if_neg (by intro e;simp [e] at q2)]);go_quiet (fail);obtain⟨WZ,hWZ⟩:∃W,W=W1.drewN nq:=⟨_,rfl⟩;have GZ:=uU (show GAt B WZ g (dH x i) ar kr ac kc vg br bc pb pa pk role by rw[hWZ,<-uH EZ];exact W1G.ext ((Ext.refl W1).drewN _));have XZ:=uU (show Ext a WZ by rw[hWZ];exact X1.drewN _);have LZ:=uU (show(dH x i).A.length=x.A.length by rw[<-uH EZ]);have SZ:=uU (show((dH x i).c i).st=(x.c i).st by rw[<-uH EZ];rfl);go_wp2_with fail;rw[<-hWZ];clear hWZ c4 c6 p0 hgW hbc f4;have c4:=GZ.bx.2.2.2.2.1;rw[H.hc hn,uH LZ] at c4;have c6:WZ.cell? ⟨g,6,none⟩=some (iv i):=GZ.bx.2.2.2.2.2.2.1;have p0:WZ.cell? ⟨bc,i*8,none⟩=some (iv (x.c i).st):=by have:=(GZ.rw.s i (by rw[uH LZ];exact hin)).1;rw[uH SZ] at this;exact this
  have f4:=GZ.nf.2 4;have hgW:g<WZ.heap.size:=uL c6;have hbc:bc<WZ.heap.size:=uL p0;cases qL:((i:Int) == (x.A.length:Int)-1)
  ·have EF:=uU (show cN x=dH x i by rw[uH EU];unfold zU;rw[if_neg];intro e;have:=e.1;rw[uH LZ] at this;simp at qL;omega);go_quiet (fail);go_wp2_with fail
   go_end0
   exact⟨rfl,by rw[uH EF];exact⟨_,_,_,_,_,_,_,_,_,_,_,GZ.ext ((Ext.refl WZ).drewN _)⟩,XZ.drewN _⟩
  ·cases q0:((x.c i).st == 0)
   ·have EF:=uU (show cN x=dH x i by rw[uH EU];unfold zU;rw[if_neg];intro e;have:=e.2;rw[uH SZ] at this;simp [this] at q0);go_quiet (fail);go_wp2_with fail
    go_end0
    exact⟨rfl,by rw[uH EF];exact⟨_,_,_,_,_,_,_,_,_,_,_,GZ.ext ((Ext.refl WZ).drewN _)⟩,XZ.drewN _⟩
   ·have SZ2:=uU (show((dH x i).c i).st=0 by rw[uH SZ];simpa using q0);have EF:=uU (show cN x={ dH x i with A:=(dH x i).A.take i } by rw[uH EU];unfold zU;rw[if_pos ⟨by rw[uH LZ];simp at qL;omega,SZ2⟩])
    have FN:=uU (show ∀n,GOk B ((WZ.drewN n).setCell ⟨g,4,none⟩ (.slice (some ⟨bc,0,none⟩) i kc)) g { dH x i with A:=(dH x i).A.take i }/\Ext a ((WZ.drewN n).setCell ⟨g,4,none⟩ (.slice (some ⟨bc,0,none⟩) i kc)) from λn=>by
     have g1:=(GZ.ext ((Ext.refl WZ).drewN n)).drop i (by rw[uH LZ];simp at qL;omega);rw[H.hc hn] at g1;exact⟨g1,(XZ.drewN n).setCell (p:=⟨g,4,none⟩) (show a.heap.size<=g by omega) _⟩)
    have kl:(i:Int)<=(kc:Int):=by have:=H.kl;omega
    go_quiet (fail);go_wp2_with fail
    go_region
    all_goals
     go_wp2_with fail
     go_end0
     exact⟨rfl,by rw[uH EF];exact(FN _).1,(FN _).2⟩
 ·obtain⟨r0,r1,r2,r3,r4,r5,r6⟩:=W1G.rw.s i hin;have r7:=W1G.rw.p7 i hin;have fc:=(W1G.rw.nc hn).1.2;go_quiet (fail);go_wp2_with fail
  go_region
  all_goals
   obtain⟨WZ,hWZ⟩:∃W,W=zZ (W1.drewN (nq+1)) bc (i*8) 0 0:=⟨_,rfl⟩;have EZ:=uU (show({ x with A:=x.A.set i ⟨0,0,0,0,0,0,0,[]⟩,I:=(i:Int) }:Hp)=dH x i by unfold dH;rw[if_pos (by simpa using q2)];rfl)
   have GZ:=uU (show GAt B WZ g (dH x i) ar kr ac kc vg br bc pb (λq=>if q=i then none else pa q) (λq=>if q=i then 0 else pk q) role by
    have g1:=W1G.ext ((Ext.refl W1).drewN (nq+1));obtain⟨k1,k2⟩:=a4p (W1.drewN (nq+1)) bc (i*8) 0 0 _ _ (g1.rw.s i hin) (g1.rw.p7 i hin);rw[hWZ,<-uH EZ];exact g1.clear i hin _ rfl (a0g _ _ _ _ _) (a9j (g1.rw.nc hn).1 _ _ _) k1 k2 (λk hk=>a3x _ _ _ _ _ k hk))
   have XZ:=uU (show Ext a WZ by rw[hWZ];exact(a0g _ _ _ _ _).ext (X1.drewN _) (λq hq e=>by have:=(H.rw.nc hn).2;omega));have LZ:=uU (show(dH x i).A.length=x.A.length by rw[<-uH EZ];simp)
   have SZ0:=uU (show((dH x i).c i).st=0 by
    have:=Hp.c_set x i ⟨0,0,0,0,0,0,0,[]⟩ hin i;rw[<-uH EZ];have e2:({ x with A:=x.A.set i ⟨0,0,0,0,0,0,0,[]⟩,I:=(i:Int) }:Hp).c i=({ x with A:=x.A.set i ⟨0,0,0,0,0,0,0,[]⟩ }:Hp).c i:=rfl;rw[e2,this,if_pos rfl])
   unfold zZ at hWZ;go_wp2_with fail;rw[<-hWZ];clear hWZ c4 c6 p0 hgW hbc f4 r0 r1 r2 r3 r4 r5 r6 r7 fc;have c4:=GZ.bx.2.2.2.2.1;rw[H.hc hn,uH LZ] at c4;have c6:WZ.cell? ⟨g,6,none⟩=some (iv i):=GZ.bx.2.2.2.2.2.2.1;have p0:WZ.cell? ⟨bc,i*8,none⟩=some (iv 0):=by have:=(GZ.rw.s i (by rw[uH LZ];exact hin)).1;rw[uH SZ0] at this;exact this
   have f4:=GZ.nf.2 4;have hgW:g<WZ.heap.size:=uL c6;have hbc:bc<WZ.heap.size:=uL p0;cases qL:((i:Int) == (x.A.length:Int)-1)
   ·have EF:=uU (show cN x=dH x i by rw[uH EU];unfold zU;rw[if_neg];intro e;have:=e.1;rw[uH LZ] at this;simp at qL;omega);go_quiet (fail);go_wp2_with fail
    go_end0
    exact⟨rfl,by rw[uH EF];exact⟨_,_,_,_,_,_,_,_,_,_,_,GZ.ext ((Ext.refl WZ).drewN _)⟩,XZ.drewN _⟩
   ·skip
    have EF:=uU (show cN x={ dH x i with A:=(dH x i).A.take i } by rw[uH EU];unfold zU;rw[if_pos ⟨by rw[uH LZ];simp at qL;omega,SZ0⟩])
    have FN:=uU (show ∀n,GOk B ((WZ.drewN n).setCell ⟨g,4,none⟩ (.slice (some ⟨bc,0,none⟩) i kc)) g { dH x i with A:=(dH x i).A.take i }/\Ext a ((WZ.drewN n).setCell ⟨g,4,none⟩ (.slice (some ⟨bc,0,none⟩) i kc)) from λn=>by
     have g1:=(GZ.ext ((Ext.refl WZ).drewN n)).drop i (by rw[uH LZ];simp at qL;omega);rw[H.hc hn] at g1;exact⟨g1,(XZ.drewN n).setCell (p:=⟨g,4,none⟩) (show a.heap.size<=g by omega) _⟩)
    have kl:(i:Int)<=(kc:Int):=by have:=H.kl;omega
    go_quiet (fail);go_wp2_with fail
    go_region
    all_goals
     go_wp2_with fail
     go_end0
     exact⟨rfl,by rw[uH EF];exact(FN _).1,(FN _).2⟩
theorem b8m[Inhabited uQ](B g:Nat)(x:Hp)(w:World)(h:GOk B w g x)(s:Snd x)(a:World)(ha:a.heap.size<=B)(hx:Ext a w):
  Calls Tryz.prog 192 #[.pointer (some ⟨g,0,none⟩)] w λe w'=>e=.returned (.tuple #[])/\GOk B w' g (cN x)/\Ext a w':=by
 by_cases h0:x.I=0
 ·exact b8k B g x w h s a ha hx h0
 ·exact b6h B g x w h s a ha hx (x.I-1).toNat (by have:=s.r1.I;omega)
end Go.Proofs.YtddkhnclmeikfaaGreat
