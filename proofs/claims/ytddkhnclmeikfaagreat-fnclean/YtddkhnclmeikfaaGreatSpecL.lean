import Derived.Test.YtddkhnclmeikfaaGreatSpecH4
import Derived.Test.YtddkhnclmeikfaaGreatSpecK
import Derived.Test.YtddkhnclmeikfaaGreatSpecI2
set_option maxRecDepth 100000
set_option maxHeartbeats 2000000
namespace Go.Proofs.YtddkhnclmeikfaaGreat
open Go.RowKit
attribute [local go_sem ↓] Go.wp_at_zero Go.wp_at_succ
variable{ar ac ag:Option Addr}{kr kc kg:Nat}
theorem a9c{x:Hp}(r:R4 x):∀i,i<x.A.length->∀k,k<(x.c i).F.length->uE ((x.c i).p k).key x.A.length/\uE ((x.c i).p k).val x.A.length:=λi hi k hk=>by
 have hp:=(r.2 i hi).2 k hk;by_cases d:hY x i
 ·exact hp.1 d
 ·exact⟨(hp.2 d).1.1,(hp.2 d).2.1⟩
theorem b7y(x:Hp)(b:Nat)(w:World)(h:HAt w b x ar kr ac kc ag kg)(r1:R1 x)(r4:R4 x)(r6:R6 x):
  Calls Tryz.prog 132 #[.pointer (some ⟨b,0,none⟩)] w λe w'=>∃r:Bool,e=.returned (.bool r)/\(r=true↔R7 x)/\Ext w w':=by
 cases q1:(x.E == 1)
 ·cases q2:(x.E == 2)
  ·have Y:=uU (show R7 x from λm=>by rcases m with m | m <;> simp [m] at q1 q2);have q1n:(x.E != 1)=true:=by simpa using q1
   have q2n:(x.E != 2)=true:=by simpa using q2
   have c5:=h.c5;clear h r1 r4 r6;go_enter Tryz.func132,Tryz.ntmps132;go_wp2_with fail;go_ret
   first | (exact Or.inr ⟨rfl,Y,Ext.refl _⟩) | (exact⟨true,rfl,⟨λ_=>uH Y,λ_=>rfl⟩,Ext.refl _⟩)
  ·exact c4g x b w h (a9c r4) r6 r1 q1 q2
 ·exact c4f x b w h (a9c r4) r6 r1 q1
theorem c2v(x:Hp)(w:World)(hR:SlW w (.slice ar x.B.length kr) x.B)(hC:SlC w (.slice ac x.A.length kc) x.A)(hG:SlI w (.slice ag x.D.length kg) x.D):
  HAt (w.alloc (.cells #[iv x.M,iv x.K,iv x.born,.slice ar x.B.length kr,.slice ac x.A.length kc,iv x.E,iv x.I,iv x.sub,.slice ag x.D.length kg,iv x.per,iv x.V,iv x.Q,iv x.S] 34)) w.heap.size x ar kr ac kc ag kg:=by
 have e:=(Ext.refl w).alloc (.cells #[iv x.M,iv x.K,iv x.born,.slice ar x.B.length kr,.slice ac x.A.length kc,iv x.E,iv x.I,iv x.sub,.slice ag x.D.length kg,iv x.per,iv x.V,iv x.Q,iv x.S] 34);obtain⟨a1,k1,v1,l1,R⟩:=hR;obtain⟨a2,k2,v2,l2,C⟩:=hC;obtain⟨a3,k3,v3,l3,G⟩:=hG;simp only [Value.slice.injEq] at v1 v2 v3;obtain⟨rfl,_,rfl⟩:=v1;obtain⟨rfl,_,rfl⟩:=v2;obtain⟨rfl,_,rfl⟩:=v3;refine⟨?_,?_,?_,?_,?_,?_,?_,?_,?_,?_,?_,?_,?_,l1,l2,l3,?_,?_,?_⟩
 iterate 13 (simp [go_sem])
 ·exact λi hi=>let ⟨b',o,a,p⟩:=R i hi;⟨b',o,a,p.ext e⟩
 ·intro i hi;obtain⟨b',o,a,p⟩:=C i hi;rw[Hp.c_eq] at p;exact⟨b',o,a,p.ext e⟩
 ·exact λi hi=>let ⟨b',o,a,p⟩:=G i hi;⟨b',o,a,p.ext e⟩
theorem a6b(x:Hp)(w:World)(hR:SlW w (.slice ar x.B.length kr) x.B)(hC:SlC w (.slice ac x.A.length kc) x.A)(hG:SlI w (.slice ag x.D.length kg) x.D):
  Calls Tryz.prog 73 #[x.v (.slice ar x.B.length kr) (.slice ac x.A.length kc) (.slice ag x.D.length kg)] w λe w'=>∃n:Int,e=.returned (.int .i64 n)/\eQ x n/\Ext w w':=by
 have h:=c2v x w hR hC hG;have hw:=(Ext.refl w).alloc (.cells #[iv x.M,iv x.K,iv x.born,.slice ar x.B.length kr,.slice ac x.A.length kc,iv x.E,iv x.I,iv x.sub,.slice ag x.D.length kg,iv x.per,iv x.V,iv x.Q,iv x.S] 34);clear hR hC hG;go_enter Tryz.func73,Tryz.ntmps73;go_wp2_with fail;refine(b7s x _ _ h).mono ?_;rintro e w1 ⟨b1,rfl,hr,hq⟩;have h1:=h.ext hq;have x1:=hw.trans hq;clear hw h hq;cases b1
 ·have Y:=uU (show eQ x 1 from Or.inl ⟨λr=>by simpa using hr.2 r,rfl⟩);clear hr;go_wp2_with fail;go_ret;exact⟨1,rfl,Y,x1⟩
 have r1:R1 x:=hr.1 rfl;have Q1:=uU r1;clear hr r1;go_wp2_with fail;refine(b7u x _ _ h1).mono ?_;rintro e w2 ⟨b1,rfl,hr,hq⟩;have h2:=h1.ext hq;have x2:=x1.trans hq;clear x1 h1 hq;cases b1
 ·have Y:=uU (show eQ x 2 from Or.inr (Or.inl ⟨Q1,λr=>by simpa using hr.2 r,rfl⟩));clear hr;go_wp2_with fail;go_ret;exact⟨2,rfl,Y,x2⟩
 have r2:R2 x:=hr.1 rfl;have Q2:=uU r2;have hn8:x.A.length<=8000:=by have:=Q1.M;have:=Q1.A;omega
 have hp2:∀i,i<x.A.length->(x.c i).F.length<=200:=λi hi=>by
  rcases r2.1 i hi with c | c | c
  ·have:=c.2.1.2.2.2.2.2;omega
  ·have:=c.2.1.2.2.2.2.2;omega
  ·exact c.2.2.2.2.2.2.2
 have HU:=uU (λw' (e:Up w2 w')=>a4c (b7v x w.heap.size w' (h2.ext e.ext) hn8 hp2) e);have F0:∀w',Up w2 w'->w'.cell? ⟨w.heap.size,0,none⟩=some (iv x.M)/\w'.cell? ⟨w.heap.size,1,none⟩=some (iv x.K):=λw' e=>⟨e.ext.keep h2.c0,e.ext.keep h2.c1⟩
 have c0:=h2.c0;have c1:=h2.c1;have H2:=uU h2;clear hr r2 h2 hp2;go_wp2_with fail;cases u1:(x.K == (dL x.A:Int))
 ·have u1b:(x.K != (dL x.A:Int))=true:=by simpa using u1
  have Y:=uU (show eQ x 3 from Or.inr (Or.inr (Or.inl ⟨Q1,Q2,λr=>by simp [r.1] at u1,rfl⟩)));refine wp_region_quiet (C:=Up w2) (by kernel_rfl) (by kernel_rfl) (show Ext _ _ from(Ext.refl _).drew) ?_
  go_simp
  iterate 12 (first | go_big_quiet_skip | (go_big_quiet_want;go_big_quiet_op;first | go_big_quiet_on | (apply Exists.intro;refine⟨λw' hw'=>?_,?_⟩;(first | (go_at_call 128;exact(uH HU w' hw')) | (with_reducible rfl) | (go_simp;first | done | (with_reducible rfl) | (refine⟨?_,?_⟩ <;> with_reducible rfl)));go_big_quiet_on)))
  refine wpQuiet_nil ?_;intro w3 hq3;have x3:=x2.trans hq3.ext;clear F0 HU;go_wp2_with fail;go_ret;exact⟨3,rfl,Y,x3⟩
 ·have u1b:(x.K != (dL x.A:Int))=false:=by simpa using u1
  by_cases u2:x.M<x.K
  ·have Y:=uU (show eQ x 3 from Or.inr (Or.inr (Or.inl ⟨Q1,Q2,λr=>by have:=r.2;omega,rfl⟩)));refine wp_region_quiet (C:=Up w2) (by kernel_rfl) (by kernel_rfl) (show Ext _ _ from(Ext.refl _).drew) ?_
   go_simp
   iterate 12 (first | go_big_quiet_skip | (go_big_quiet_want;go_big_quiet_op;first | go_big_quiet_on | (apply Exists.intro;refine⟨λw' hw'=>?_,?_⟩;(first | (go_at_call 128;exact(uH HU w' hw')) | (with_reducible rfl) | (go_simp;first | done | (with_reducible rfl) | (refine⟨?_,?_⟩ <;> with_reducible rfl)));go_big_quiet_on)))
   refine wpQuiet_nil ?_;intro w3 hq3;have x3:=x2.trans hq3.ext;clear F0 HU;go_wp2_with fail;go_ret;exact⟨3,rfl,Y,x3⟩
  have Q3:=uU (show R3 x from⟨by simpa using u1,by omega⟩);refine wp_region_quiet (C:=Up w2) (by kernel_rfl) (by kernel_rfl) (show Ext _ _ from(Ext.refl _).drew) ?_
  go_simp
  iterate 12 (first | go_big_quiet_skip | (go_big_quiet_want;go_big_quiet_op;first | go_big_quiet_on | (apply Exists.intro;refine⟨λw' hw'=>?_,?_⟩;(first | (go_at_call 128;exact(uH HU w' hw')) | (with_reducible rfl) | (go_simp;first | done | (with_reducible rfl) | (refine⟨?_,?_⟩ <;> with_reducible rfl)));go_big_quiet_on)))
  refine wpQuiet_nil ?_;intro w3 hq3;have x3:=x2.trans hq3.ext;have h3:=H2.ext hq3.ext;clear F0 HU H2 c0 c1 u1 u1b u2;go_wp2_with fail;refine(b7w x _ _ h3).mono ?_;rintro e w4 ⟨b1,rfl,hr,hq⟩;have h4:=h3.ext hq;have x4:=x3.trans hq;clear x3 h3 hq;cases b1
  ·have Y:=uU (show eQ x 4 from Or.inr (Or.inr (Or.inr (Or.inl ⟨Q1,Q2,Q3,λr=>by simpa using hr.2 r,rfl⟩))));clear hr;go_wp2_with fail;go_ret;exact⟨4,rfl,Y,x4⟩
  have Q4:=uU (show R4 x from hr.1 rfl);clear hr;go_wp2_with fail;refine(b6c x _ _ h4).mono ?_;rintro e w5 ⟨b1,rfl,hr,hq⟩;have h5:=h4.ext hq;have x5:=x4.trans hq;clear x4 h4 hq;cases b1
  ·have Y:=uU (show eQ x 5 from Or.inr (Or.inr (Or.inr (Or.inr (Or.inl ⟨Q1,Q2,Q3,Q4,λr=>by simpa using hr.2 r,rfl⟩)))));clear hr;go_wp2_with fail;go_ret;exact⟨5,rfl,Y,x5⟩
  have Q5:=uU (show R5 x from hr.1 rfl);clear hr;go_wp2_with fail;refine(b7x x _ _ h5 Q1 Q5).mono ?_;rintro e w6 ⟨b1,rfl,hr,hq⟩;have h6:=h5.ext hq;have x6:=x5.trans hq;clear x5 h5 hq;cases b1
  ·have Y:=uU (show eQ x 6 from Or.inr (Or.inr (Or.inr (Or.inr (Or.inr (Or.inl ⟨Q1,Q2,Q3,Q4,Q5,λr=>by simpa using hr.2 r,rfl⟩))))));clear hr;go_wp2_with fail;go_ret;exact⟨6,rfl,Y,x6⟩
  have Q6:=uU (show R6 x from hr.1 rfl);clear hr;go_wp2_with fail;refine(b7y x _ _ h6 Q1 Q4 Q6).mono ?_;rintro e w7 ⟨b1,rfl,hr,hq⟩;have h7:=h6.ext hq;have x7:=x6.trans hq;clear x6 h6 hq;cases b1
  ·have Y:=uU (show eQ x 7 from Or.inr (Or.inr (Or.inr (Or.inr (Or.inr (Or.inr (Or.inl ⟨Q1,Q2,Q3,Q4,Q5,Q6,λr=>by simpa using hr.2 r,rfl⟩)))))));clear hr;go_wp2_with fail;go_ret;exact⟨7,rfl,Y,x7⟩
  have Q7:=uU (show R7 x from hr.1 rfl);clear hr;go_wp2_with fail;refine(b4c x _ _ h7).mono ?_;rintro e w8 ⟨b1,rfl,hr,hq⟩;have x8:=x7.trans hq;clear x7 h7 hq;cases b1
  ·have Y:=uU (show eQ x 8 from Or.inr (Or.inr (Or.inr (Or.inr (Or.inr (Or.inr (Or.inr (Or.inl ⟨Q1,Q2,Q3,Q4,Q5,Q6,Q7,λr=>by simpa using hr.2 r,rfl⟩))))))));clear hr;go_wp2_with fail;go_ret;exact⟨8,rfl,Y,x8⟩
  ·have Y:=uU (show eQ x 0 from Or.inr (Or.inr (Or.inr (Or.inr (Or.inr (Or.inr (Or.inr (Or.inr ⟨Q1,Q2,Q3,Q4,Q5,Q6,Q7,hr.1 rfl,rfl⟩))))))));clear hr;go_wp2_with fail;go_ret;exact⟨0,rfl,Y,x8⟩
end Go.Proofs.YtddkhnclmeikfaaGreat
