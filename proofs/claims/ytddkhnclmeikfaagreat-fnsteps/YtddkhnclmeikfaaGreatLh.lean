import Derived.Test.YtddkhnclmeikfaaGreatLf
import Derived.Test.YtddkhnclmeikfaaGreatSpecK
import Derived.Test.YtddkhnclmeikfaaGreatSpecE
import Derived.Test.YtddkhnclmeikfaaGreatSpecI2
set_option maxRecDepth 100000
set_option maxHeartbeats 4000000
namespace Go.Proofs.YtddkhnclmeikfaaGreat
open Go.RowKit
attribute [local go_sem ↓] Go.wp_at_zero Go.wp_at_succ
variable{x y z:Hp}{w w':World}{B g kr kc br bc kg k j u:Nat}{ar ac ag:Option Addr}{pb pk role:Nat->Nat}{pa:Nat->Option Addr}{vg:Value}
theorem a8j(r:R4 x):∀i,i<x.cells.length->∀k,k<(x.c i).prs.length->uK ((x.c i).p k).key x.cells.length/\uK ((x.c i).p k).val x.cells.length:=λi hi k hk=>by
 have hp:=(r.2 i hi).2 k hk;by_cases d:cU x i
 ·exact hp.1 d
 ·exact⟨(hp.2 d).1.1,(hp.2 d).2.1⟩
theorem b6n(x:Hp)(b:Nat)(w:World)(h:HAt w b x ar kr ac kc ag kg)(r1:R1 x)(r4:R4 x)(r6:R6 x):
  Calls Tryz.prog 132 #[.pointer (some ⟨b,0,none⟩)] w λe w'=>∃r:Bool,e=.returned (.bool r)/\(r=true↔R7 x)/\Ext w w':=by
 cases q1:(x.phase == 1)
 ·cases q2:(x.phase == 2)
  ·have Y:=uU (show R7 x from λm=>by rcases m with m | m <;> simp [m] at q1 q2);have q1n:(x.phase != 1)=true:=by simpa using q1
   have q2n:(x.phase != 2)=true:=by simpa using q2
   have c5:=h.c5;clear h r1 r4 r6;go_enter Tryz.func132,Tryz.ntmps132;go_wp2_with fail;go_ret
   first | (exact Or.inr ⟨rfl,Y,Ext.refl _⟩) | (exact⟨true,rfl,⟨λ_=>uH Y,λ_=>rfl⟩,Ext.refl _⟩)
  ·exact c2a x b w h (a8j r4) r6 r1 q1 q2
 ·exact c1z x b w h (a8j r4) r6 r1 q1
theorem hat_box(x:Hp)(w:World)(hR:SlW w (.slice ar x.regs.length kr) x.regs)(hC:SlC w (.slice ac x.cells.length kc) x.cells)(hG:SlI w (.slice ag x.gray.length kg) x.gray):
  HAt (w.alloc (.cells #[iv x.room,iv x.used,iv x.born,.slice ar x.regs.length kr,.slice ac x.cells.length kc,iv x.phase,iv x.hand,iv x.sub,.slice ag x.gray.length kg,iv x.per,iv x.start,iv x.rounds,iv x.forced] 34)) w.heap.size x ar kr ac kc ag kg:=by
 have e:=(Ext.refl w).alloc (.cells #[iv x.room,iv x.used,iv x.born,.slice ar x.regs.length kr,.slice ac x.cells.length kc,iv x.phase,iv x.hand,iv x.sub,.slice ag x.gray.length kg,iv x.per,iv x.start,iv x.rounds,iv x.forced] 34);obtain⟨a1,k1,v1,l1,R⟩:=hR;obtain⟨a2,k2,v2,l2,C⟩:=hC;obtain⟨a3,k3,v3,l3,G⟩:=hG;simp only [Value.slice.injEq] at v1 v2 v3;obtain⟨rfl,_,rfl⟩:=v1;obtain⟨rfl,_,rfl⟩:=v2;obtain⟨rfl,_,rfl⟩:=v3;refine⟨?_,?_,?_,?_,?_,?_,?_,?_,?_,?_,?_,?_,?_,l1,l2,l3,?_,?_,?_⟩
 iterate 13 (simp [go_sem])
 ·exact λi hi=>let ⟨b',o,a,p⟩:=R i hi;⟨b',o,a,p.ext e⟩
 ·intro i hi;obtain⟨b',o,a,p⟩:=C i hi;rw[Hp.c_eq] at p;exact⟨b',o,a,p.ext e⟩
 ·exact λi hi=>let ⟨b',o,a,p⟩:=G i hi;⟨b',o,a,p.ext e⟩
theorem a5u(x:Hp)(w:World)(hR:SlW w (.slice ar x.regs.length kr) x.regs)(hC:SlC w (.slice ac x.cells.length kc) x.cells)(hG:SlI w (.slice ag x.gray.length kg) x.gray):
  Calls Tryz.prog 73 #[x.v (.slice ar x.regs.length kr) (.slice ac x.cells.length kc) (.slice ag x.gray.length kg)] w λe w'=>∃n:Int,e=.returned (.int .i64 n)/\eJ x n/\Ext w w':=by
 have h:=hat_box x w hR hC hG;have hw:=(Ext.refl w).alloc (.cells #[iv x.room,iv x.used,iv x.born,.slice ar x.regs.length kr,.slice ac x.cells.length kc,iv x.phase,iv x.hand,iv x.sub,.slice ag x.gray.length kg,iv x.per,iv x.start,iv x.rounds,iv x.forced] 34);clear hR hC hG;go_enter Tryz.func73,Tryz.ntmps73;go_wp2_with fail;refine(b6h x _ _ h).mono ?_;rintro e w1 ⟨b1,rfl,hr,hq⟩;have h1:=h.ext hq;have x1:=hw.trans hq;clear hw h hq;cases b1
 ·have Y:=uU (show eJ x 1 from Or.inl ⟨λr=>by simpa using hr.2 r,rfl⟩);clear hr;go_wp2_with fail;go_ret;exact⟨1,rfl,Y,x1⟩
 have r1:R1 x:=hr.1 rfl;have Q1:=uU r1;clear hr r1;go_wp2_with fail;refine(b6j x _ _ h1).mono ?_;rintro e w2 ⟨b1,rfl,hr,hq⟩;have h2:=h1.ext hq;have x2:=x1.trans hq;clear x1 h1 hq;cases b1
 ·have Y:=uU (show eJ x 2 from Or.inr (Or.inl ⟨Q1,λr=>by simpa using hr.2 r,rfl⟩));clear hr;go_wp2_with fail;go_ret;exact⟨2,rfl,Y,x2⟩
 have r2:R2 x:=hr.1 rfl;have Q2:=uU r2;have hn8:x.cells.length<=8000:=by have:=Q1.room;have:=Q1.cells;omega
 have hp2:∀i,i<x.cells.length->(x.c i).prs.length<=200:=λi hi=>by
  rcases r2.1 i hi with c | c | c
  ·have:=c.2.1.2.2.2.2.2;omega
  ·have:=c.2.1.2.2.2.2.2;omega
  ·exact c.2.2.2.2.2.2.2
 have HU:=uU (λw' (e:Up w2 w')=>a4z (b6b x w.heap.size w' (h2.ext e.ext) hn8 hp2) e);have F0:∀w',Up w2 w'->w'.cell? ⟨w.heap.size,0,none⟩=some (iv x.room)/\w'.cell? ⟨w.heap.size,1,none⟩=some (iv x.used):=λw' e=>⟨e.ext.keep h2.c0,e.ext.keep h2.c1⟩
 have c0:=h2.c0;have c1:=h2.c1;have H2:=uU h2;clear hr r2 h2 hp2;go_wp2_with fail;cases u1:(x.used == (dN x.cells:Int))
 ·have u1b:(x.used != (dN x.cells:Int))=true:=by simpa using u1
  have Y:=uU (show eJ x 3 from Or.inr (Or.inr (Or.inl ⟨Q1,Q2,λr=>by simp [r.1] at u1,rfl⟩)));refine wp_region_quiet (C:=Up w2) (by kernel_rfl) (by kernel_rfl) (show Ext _ _ from(Ext.refl _).drew) ?_
  go_simp
  iterate 12 (first | go_big_quiet_skip | (go_big_quiet_want;go_big_quiet_op;first | go_big_quiet_on | (apply Exists.intro;refine⟨λw' hw'=>?_,?_⟩;(first | (go_at_call 128;exact(uH HU w' hw')) | (with_reducible rfl) | (go_simp;first | done | (with_reducible rfl) | (refine⟨?_,?_⟩ <;> with_reducible rfl)));go_big_quiet_on)))
  refine wpQuiet_nil ?_;intro w3 hq3;have x3:=x2.trans hq3.ext;clear F0 HU;go_wp2_with fail;go_ret;exact⟨3,rfl,Y,x3⟩
 ·have u1b:(x.used != (dN x.cells:Int))=false:=by simpa using u1
  by_cases u2:x.room<x.used
  ·have Y:=uU (show eJ x 3 from Or.inr (Or.inr (Or.inl ⟨Q1,Q2,λr=>by have:=r.2;omega,rfl⟩)));refine wp_region_quiet (C:=Up w2) (by kernel_rfl) (by kernel_rfl) (show Ext _ _ from(Ext.refl _).drew) ?_
   go_simp
   iterate 12 (first | go_big_quiet_skip | (go_big_quiet_want;go_big_quiet_op;first | go_big_quiet_on | (apply Exists.intro;refine⟨λw' hw'=>?_,?_⟩;(first | (go_at_call 128;exact(uH HU w' hw')) | (with_reducible rfl) | (go_simp;first | done | (with_reducible rfl) | (refine⟨?_,?_⟩ <;> with_reducible rfl)));go_big_quiet_on)))
   refine wpQuiet_nil ?_;intro w3 hq3;have x3:=x2.trans hq3.ext;clear F0 HU;go_wp2_with fail;go_ret;exact⟨3,rfl,Y,x3⟩
  have Q3:=uU (show R3 x from⟨by simpa using u1,by omega⟩);refine wp_region_quiet (C:=Up w2) (by kernel_rfl) (by kernel_rfl) (show Ext _ _ from(Ext.refl _).drew) ?_
  go_simp
  iterate 12 (first | go_big_quiet_skip | (go_big_quiet_want;go_big_quiet_op;first | go_big_quiet_on | (apply Exists.intro;refine⟨λw' hw'=>?_,?_⟩;(first | (go_at_call 128;exact(uH HU w' hw')) | (with_reducible rfl) | (go_simp;first | done | (with_reducible rfl) | (refine⟨?_,?_⟩ <;> with_reducible rfl)));go_big_quiet_on)))
  refine wpQuiet_nil ?_;intro w3 hq3;have x3:=x2.trans hq3.ext;have h3:=H2.ext hq3.ext;clear F0 HU H2 c0 c1 u1 u1b u2;go_wp2_with fail;refine(b6k x _ _ h3).mono ?_;rintro e w4 ⟨b1,rfl,hr,hq⟩;have h4:=h3.ext hq;have x4:=x3.trans hq;clear x3 h3 hq;cases b1
  ·have Y:=uU (show eJ x 4 from Or.inr (Or.inr (Or.inr (Or.inl ⟨Q1,Q2,Q3,λr=>by simpa using hr.2 r,rfl⟩))));clear hr;go_wp2_with fail;go_ret;exact⟨4,rfl,Y,x4⟩
  have Q4:=uU (show R4 x from hr.1 rfl);clear hr;go_wp2_with fail;refine(b4w x _ _ h4).mono ?_;rintro e w5 ⟨b1,rfl,hr,hq⟩;have h5:=h4.ext hq;have x5:=x4.trans hq;clear x4 h4 hq;cases b1
  ·have Y:=uU (show eJ x 5 from Or.inr (Or.inr (Or.inr (Or.inr (Or.inl ⟨Q1,Q2,Q3,Q4,λr=>by simpa using hr.2 r,rfl⟩)))));clear hr;go_wp2_with fail;go_ret;exact⟨5,rfl,Y,x5⟩
  have Q5:=uU (show R5 x from hr.1 rfl);clear hr;go_wp2_with fail;refine(b6m x _ _ h5 Q1 Q5).mono ?_;rintro e w6 ⟨b1,rfl,hr,hq⟩;have h6:=h5.ext hq;have x6:=x5.trans hq;clear x5 h5 hq;cases b1
  ·have Y:=uU (show eJ x 6 from Or.inr (Or.inr (Or.inr (Or.inr (Or.inr (Or.inl ⟨Q1,Q2,Q3,Q4,Q5,λr=>by simpa using hr.2 r,rfl⟩))))));clear hr;go_wp2_with fail;go_ret;exact⟨6,rfl,Y,x6⟩
  have Q6:=uU (show R6 x from hr.1 rfl);clear hr;go_wp2_with fail;refine(b6n x _ _ h6 Q1 Q4 Q6).mono ?_;rintro e w7 ⟨b1,rfl,hr,hq⟩;have h7:=h6.ext hq;have x7:=x6.trans hq;clear x6 h6 hq;cases b1
  ·have Y:=uU (show eJ x 7 from Or.inr (Or.inr (Or.inr (Or.inr (Or.inr (Or.inr (Or.inl ⟨Q1,Q2,Q3,Q4,Q5,Q6,λr=>by simpa using hr.2 r,rfl⟩)))))));clear hr;go_wp2_with fail;go_ret;exact⟨7,rfl,Y,x7⟩
  have Q7:=uU (show R7 x from hr.1 rfl);clear hr;go_wp2_with fail;refine(b3e x _ _ h7).mono ?_;rintro e w8 ⟨b1,rfl,hr,hq⟩;have x8:=x7.trans hq;clear x7 h7 hq;cases b1
  ·have Y:=uU (show eJ x 8 from Or.inr (Or.inr (Or.inr (Or.inr (Or.inr (Or.inr (Or.inr (Or.inl ⟨Q1,Q2,Q3,Q4,Q5,Q6,Q7,λr=>by simpa using hr.2 r,rfl⟩))))))));clear hr;go_wp2_with fail;go_ret;exact⟨8,rfl,Y,x8⟩
  ·have Y:=uU (show eJ x 0 from Or.inr (Or.inr (Or.inr (Or.inr (Or.inr (Or.inr (Or.inr (Or.inr ⟨Q1,Q2,Q3,Q4,Q5,Q6,Q7,hr.1 rfl,rfl⟩))))))));clear hr;go_wp2_with fail;go_ret;exact⟨0,rfl,Y,x8⟩
def HRd(w:World)(y:Hp)(ar:Option Addr)(kr:Nat)(ac:Option Addr)(kc:Nat)(ag:Option Addr)(kg:Nat):Prop:=SlW w (.slice ar y.regs.length kr) y.regs/\SlC w (.slice ac y.cells.length kc) y.cells/\SlI w (.slice ag y.gray.length kg) y.gray
theorem HRd.ext(h:HRd w y ar kr ac kc ag kg)(e:Ext w w'):HRd w' y ar kr ac kc ag kg:=⟨SlW.ext e h.1,SlC.ext e h.2.1,SlI.ext e h.2.2⟩
theorem HRd.zero(w:World):HRd w Hp0 none 0 none 0 none 0:=⟨tV.nil,tV.nil,tV.nil⟩
theorem GAt.low[Inhabited uN](hz:∀q,(default:uN).z q=none){S:Nat->Prop}(h:GAt B w g x ar kr ac kc vg br bc pb pa pk role)(o:uX S w w')(hS:∀q,S q->q<B):GAt B w' g x ar kr ac kc vg br bc pb pa pk role:=
 ⟨h.bx.only o (λs=>by have:=hS _ s;have:=h.lo;omega),hY h.nf (o.block g h.nf.1 (λs=>by have:=hS _ s;have:=h.lo;omega)) o.size,h.lo,h.ha,h.hc,h.rw.only o (λhl s=>by have:=hS _ s;have:=(h.rw.nr hl).2;omega) (λhl s=>by have:=hS _ s;have:=(h.rw.nc hl).2;omega) (λq hq hl s=>by have:=hS _ s;have:=(h.rw.pl q hq hl).2.2.2;omega),h.gr.block (λq hq=>o.block q (h.gr.lt q hq).2 (λs=>by have:=hS _ s;have:=(h.gr.lt q hq).1;omega)),h.sp,h.kl,λq o h=>(by rw[hz q] at h;cases h),λhk=>(h.cc hk).block rfl (o.block bc (h.cc hk).nf.1 (λs=>by have:=hS _ s;have:=(h.cc hk).lo;omega)) o.size⟩
theorem GAt.rd[Inhabited uN](h:GAt B w g x ar kr ac kc (.slice ag x.gray.length kg) br bc pb pa pk role)(n1:x.regs.length<=1048576)(n2:x.cells.length<=1048576)(n3:∀q,q<x.cells.length->(x.c q).prs.length<=200)(n4:x.gray.length<=1048576):HRd w x ar kr ac kc ag kg:=by
 refine⟨h.rw.slW kr h.ha n1,h.rw.slC kc h.hc n2 n3,⟨ag,kg,rfl,by omega,λi hi=>?_⟩⟩;obtain⟨gb,go,e,c,_⟩:=h.gr.at i hi;exact⟨gb,go,e,by rw[Nat.mul_one];exact c⟩
structure Snd(x:Hp):Prop where
 r1:R1 x
 r2:R2 x
 r3:R3 x
 r4:R4 x
 r5:R5 x
 r6:R6 x
 r7:R7 x
 r8:R8 x
theorem eJ.snd(h:eJ x 0):Snd x:=by
 unfold eJ at h;rcases h with h | h | h | h | h | h | h | h | h
 ·have:=h.2;omega
 ·have:=h.2.2;omega
 ·have:=h.2.2.2;omega
 ·have:=h.2.2.2.2;omega
 ·have:=h.2.2.2.2.2;omega
 ·have:=h.2.2.2.2.2.2;omega
 ·have:=h.2.2.2.2.2.2.2;omega
 ·have:=h.2.2.2.2.2.2.2.2;omega
 ·obtain⟨a,b,c,d,e,f,g,i,_⟩:=h;exact⟨a,b,c,d,e,f,g,i⟩
theorem Snd.ok(h:Snd x):eJ x 0:=by
 unfold eJ;exact .inr (.inr (.inr (.inr (.inr (.inr (.inr (.inr ⟨h.r1,h.r2,h.r3,h.r4,h.r5,h.r6,h.r7,h.r8,rfl⟩)))))))
theorem a6x(x:Hp)(i:Nat)(hi:i<x.cells.length)(q:Nat):(uV x i).c q=if qU x i=true/\q=i then tN (x.c i) else x.c q:=by
 unfold uV;by_cases hb:qU x i=true
 ·rw[if_pos hb];have:=Hp.c_set x i (tN (x.c i)) hi q;have e:({ x with cells:=x.cells.set i (tN (x.c i)),gray:=x.gray++[(i:Int)] }:Hp).c q=({ x with cells:=x.cells.set i (tN (x.c i)) }:Hp).c q:=rfl;rw[e,this];by_cases h:q=i
  ·rw[if_pos h,if_pos ⟨hb,h⟩]
  ·rw[if_neg h,if_neg (λe=>h e.2)]
 ·rw[if_neg hb,if_neg (λe=>hb e.1)]
theorem a3g(cs:List Cl)(i:Nat)(c:Cl)(hi:i<cs.length)(he:cH c=cH cs[i]):dN (cs.set i c)=dN cs:=by
 induction cs generalizing i with
 | nil=>simp at hi
 | cons a cs ih=>
  cases i with
  | zero=>simp [dN] at he ⊢;exact he
  | succ i=>
   have:=ih i (by simpa using hi) (by simpa using he);simp [dN] at this ⊢;exact this
theorem dH(x:Hp)(i:Nat):(uV x i).room=x.room/\(uV x i).used=x.used/\(uV x i).born=x.born/\(uV x i).regs=x.regs/\(uV x i).cells.length=x.cells.length/\(uV x i).phase=x.phase/\(uV x i).hand=x.hand/\(uV x i).sub=x.sub/\(uV x i).per=x.per/\(uV x i).start=x.start/\(uV x i).rounds=x.rounds/\(uV x i).forced=x.forced:=by
 unfold uV;split <;> simp
def Cl.un(c:Cl):Cl:={ c with color:=0 }
theorem a5v(x:Hp)(i:Nat)(hi:i<x.cells.length)(q:Nat):((uV x i).c q).un=(x.c q).un:=by
 rw[a6x x i hi q]
 split
 ·rename_i h;rw[h.2];rfl
 ·rfl
theorem a0m{c d:Cl}(h:c.un=d.un):c.st=d.st/\c.kind=d.kind/\c.weak=d.weak/\c.last=d.last/\c.born=d.born/\c.to=d.to/\c.prs=d.prs:=by
 cases c;cases d;simp [Cl.un] at h;simp [h]
theorem b0k(hm:uE x)(hp:y.phase=x.phase)(hh:y.hand=x.hand)(hs:y.sub=x.sub)(hb:y.born=x.born)(hu:y.used=x.used)(hro:y.room=x.room)(hr:y.regs=x.regs)(hl:y.cells.length=x.cells.length)(hc:∀q,(y.c q).un=(x.c q).un)(hcol:∀q,q<x.cells.length->(y.c q).color=(x.c q).color\/((y.c q).st=1/\0<=(y.c q).color/\(y.c q).color<=2))(hun:dN y.cells=dN x.cells)(h2:R2 x)(h3:R3 x)(h4:R4 x):R2 y/\R3 y/\R4 y/\R8 y:=by
 have hp3:x.phase≠3:=by rcases hm with h | h <;> omega
 have nd:∀i,¬cU x i:=λi h=>hp3 h.1
 have nd':∀i,¬cU y i:=λi h=>hp3 (by rw[<-hp];exact h.1)
 have qH:∀(w:Wd) (m m':Prop),(m->m')->cN x w m->cN y w m':=λw m m' hmm h=>by
  refine⟨by rw[hl];exact h.1,λhk=>?_⟩;have e:=(a0m (hc w.a.toNat)).1;rcases h.2 hk with⟨h1,h2⟩ | ⟨h1,_⟩
  ·exact .inl ⟨by rw[e];exact h1,hmm h2⟩
  ·exact .inr ⟨by rw[e];exact h1,nd' _⟩
 have men:∀i k,¬cX x i k->¬cX y i k:=λi k h h'=>h ⟨by rw[<-hp];exact h'.1,λh5=>by have:=h'.2 (by rw[hp];exact h5);rw[hh,hs] at this;exact this⟩
 refine⟨⟨λi hi=>?_,λi hi hst k hk hh=>?_⟩,⟨by rw[hu,hun];exact h3.1,by rw[hu,hro];exact h3.2⟩,⟨λi hi=>?_,λi hi=>⟨λh=>nd' i h.1,λk hk=>⟨λh=>(nd' i h).elim,λ_=>?_⟩⟩⟩,λi hi h=>?_⟩
 ·rw[hl] at hi;obtain⟨e1,e2,e3,e4,e5,e6,e7⟩:=a0m (hc i);rcases h2.1 i hi with⟨a,b,c⟩ | ⟨a,b⟩ | ⟨a,b⟩
  ·refine .inl ⟨by rw[e1];exact a,?_,by rw[e6];exact c⟩
   have hcc:(y.c i).color=(x.c i).color:=by
    rcases hcol i hi with h | h
    ·exact h
    ·have:=h.1;omega
   exact⟨by rw[e2];exact b.1,by rw[e3];exact b.2.1,by rw[e4];exact b.2.2.1,by rw[e5];exact b.2.2.2.1,by rw[hcc];exact b.2.2.2.2.1,by rw[e7];exact b.2.2.2.2.2⟩
  ·have:=b.2.1;rcases hm with h | h <;> omega
  ·refine .inr (.inr ⟨by rw[e1];exact a,by rw[e2];exact b.1,by rw[e3];exact b.2.1,by rw[e4];exact b.2.2.1,by rw[e5,hb];exact b.2.2.2.1,?_,by rw[e6];exact b.2.2.2.2.2.1,by rw[e7];exact b.2.2.2.2.2.2⟩);rcases hcol i hi with h | h
   ·rw[h];exact b.2.2.2.2.1
   ·exact h.2
 ·rw[hl] at hi;obtain⟨e1,_,_,_,e5,e6,_⟩:=a0m (hc i);obtain⟨f1,_,_,_,f5,f6,_⟩:=a0m (hc k);rw[e1,e5,e6,f1,f5,f6] at hh;exact h2.2 i hi (by rw[<-e1];exact hst) k hk hh
 ·have hi':i<x.regs.length:=by rw[<-hr];exact hi
  have e:y.regs[i]=x.regs[i]:=by simp [hr]
  rw[e];exact qH _ _ _ id (h4.1 i hi')
 ·rw[hl] at hi;have e7:=(a0m (hc i)).2.2.2.2.2.2;rw[e7] at hk;have e8:(y.c i).p k=(x.c i).p k:=by simp only [Cl.p,e7]
  rw[e8];have:=(h4.2 i hi).2 k hk;exact⟨qH _ _ _ (men i k) (this.2 (nd i)).1,qH _ _ _ (men i k) (this.2 (nd i)).2⟩
 ·rw[hp] at h;rcases hm with h' | h' <;> omega
theorem b1o:∀(n:Nat) (L:List Nat),L.Nodup->(∀i,i∈L->i<n)->L.length<=n
 | 0,L,_,h=>by
  cases L with
  | nil=>simp
  | cons a L=>have:=h a (List.mem_cons_self ..);omega
 | n+1,L,hn,h=>by
  by_cases hm:n∈L
  ·have h1:=b1o n (L.erase n) (hn.erase n) (λi hi=>by
    have h2:=h i (List.mem_of_mem_erase hi);have h3:i≠n:=λe=>by rw[e] at hi;exact(List.Nodup.not_mem_erase hn) hi
    omega)
   rw[List.length_erase_of_mem hm] at h1;have h5:0<L.length:=List.length_pos_of_mem hm;omega
  ·have h1:=b1o n L hn (λi hi=>by
    have h2:=h i hi;have h3:i≠n:=λe=>hm (by rw[<-e];exact hi)
    omega)
   omega
theorem a5a{i:Nat}(h:qU x i=true):uE x/\(x.c i).st=1/\(x.c i).color=0:=by
 simp [qU,mkB,whB] at h;exact⟨h.1,h.2.1,h.2.2⟩
theorem gray_in(r5:R5 x)(i:Nat)(hi:i<x.cells.length):(i:Int)∈x.gray↔(x.c i).color=1:=by
 have:=r5.2.1 i hi;constructor
 ·intro h;rcases Int.decEq (x.c i).color 1 with hn | hy
  ·have h0:=this.2.1 hn;unfold cnt at h0;exact absurd h (List.count_eq_zero.1 h0)
  ·exact hy
 ·intro h;have h0:=this.1 h;unfold cnt at h0;exact List.count_pos_iff.1 (by omega)
theorem Snd.shade{x:Hp}(h:Snd x)(i:Nat)(hi:i<x.cells.length):Snd (uV x i):=by
 by_cases hb:qU x i=true;rotate_left
 ·have:uV x i=x:=by unfold uV;rw[if_neg hb]
  rw[this];exact h
 obtain⟨hm,hst,hco⟩:=a5a hb;obtain⟨s1,s2,s3,s4,s5,s6,s7,s8,s9,s10,s11,s12⟩:=dH x i;have hc:∀q,(uV x i).c q=if q=i then tN (x.c i) else x.c q:=λq=>by rw[a6x x i hi q];simp [hb]
 have hg:(uV x i).gray=x.gray++[(i:Int)]:=by unfold uV;rw[if_pos hb]
 have ng:¬(i:Int)∈x.gray:=λe=>by have:=(gray_in h.r5 i hi).1 e;omega
 have hm':uE (uV x i):=by unfold uE;rw[s6];exact hm
 have hcol:∀q,((uV x i).c q).color=if q=i then 1 else (x.c q).color:=λq=>by
  rw[hc q];by_cases e:q=i
  ·rw[if_pos e,if_pos e];rfl
  ·rw[if_neg e,if_neg e]
 have hun:=a5v x i hi
 have hunits:dN (uV x i).cells=dN x.cells:=by
  have:(uV x i).cells=x.cells.set i (tN (x.c i)):=by unfold uV;rw[if_pos hb]
  rw[this];refine a3g _ _ _ hi ?_;rw[Hp.c_eq x i hi];rfl
 obtain⟨q2,q3,q4,q8⟩:=b0k hm s6 s7 s8 s3 s2 s1 s4 s5 hun (λq hq=>by
  rw[hcol q];by_cases e:q=i
  ·right;rw[if_pos e,(a0m (hun q)).1,e];exact⟨hst,by omega,by omega⟩
  ·left;rw[if_neg e]) hunits h.r2 h.r3 h.r4
 refine⟨?_,q2,q3,q4,?_,?_,?_,q8⟩
 ·have r:=h.r1
  have hnd:((x.gray++[(i:Int)]).map Int.toNat).Nodup:=by
   unfold List.Nodup;rw[List.pairwise_map];refine List.Pairwise.imp_of_mem (R:=(·≠·)) (λha hb hne e=>hne ?_) ?_
   ·have g0:∀g,g∈x.gray++[(i:Int)]->0<=g:=λg hg=>by
     rcases List.mem_append.1 hg with h' | h'
     ·exact(h.r5.2.2 g h').1
     ·rw[List.mem_singleton] at h';omega
    have:=g0 _ ha;have:=g0 _ hb;omega
   ·rw[List.pairwise_append];exact⟨b1e h.r5,by simp,λa ha b hb e=>by rw[List.mem_singleton] at hb;rw[e,hb] at ha;exact ng ha⟩
  have hlen:=b1o x.cells.length _ hnd (λj hj=>by
   obtain⟨g,hg',rfl⟩:=List.mem_map.1 hj;rcases List.mem_append.1 hg' with h' | h'
   ·have:=h.r5.2.2 g h';omega
   ·rw[List.mem_singleton] at h';omega)
  rw[List.length_map] at hlen;exact⟨by rw[s1];exact r.room,by rw[s4];exact r.regs,by rw[s5,s1];exact r.cells,by rw[hg,s5];exact hlen,by rw[s3];exact r.born,by rw[s11];exact r.rounds,by rw[s12];exact r.forced,by rw[s9];exact r.per,by rw[s10];exact r.start,by rw[s6];exact r.phase,by rw[s7,s5];exact r.hand,by rw[s8];exact r.sub⟩
 ·refine⟨λn=>(n hm').elim,λj hj=>?_,λg hg'=>?_⟩
  ·rw[s5] at hj;have r:=h.r5.2.1 j hj
   have ecnt:cnt (uV x i).gray j=cnt x.gray j+if j=i then 1 else 0:=by
    unfold cnt;rw[hg,List.count_append];by_cases e:j=i
    ·subst e;simp
    ·rw[if_neg e,List.count_singleton];have:¬((i:Int)=(j:Int)):=by omega
     simp [this]
   unfold eE;rw[ecnt,hcol j];by_cases e:j=i
   ·subst e;rw[if_pos rfl,if_pos rfl];have:=r.2.1 (by omega);exact⟨λ_=>by omega,λh'=>by omega,λh'=>by omega⟩
   ·rw[if_neg e,if_neg e];exact⟨λh'=>by have:=r.1 h';omega,λh'=>by have:=r.2.1 h';omega,λh'=>.inl hm'⟩
  ·rw[hg] at hg';rw[s5];rcases List.mem_append.1 hg' with h' | h'
   ·exact h.r5.2.2 g h'
   ·rw[List.mem_singleton] at h';omega
 ·have r:=h.r6;unfold R6;rw[s6,s7,s8,s5];refine⟨λhp=>?_,λhp=>⟨(r.2.1 hp).1,λh0=>?_,λ_=>?_⟩,λhp=>?_,r.2.2.2⟩
  ·exact r.1 hp
  ·rw[hg] at h0;simp at h0
  ·have e7:=λq=>(a0m (hun q)).2.2.2.2.2.2
   rw[e7];rcases Nat.eq_zero_or_pos x.gray.length with h0 | h0
   ·have:=(r.2.1 hp).2.1 h0;omega
   ·have eg:(uV x i).g0=x.g0:=by
     unfold Hp.g0;rw[hg];cases hx:x.gray with
     | nil=>rw[hx] at h0;simp at h0
     | cons a l=>rfl
    rw[eg];exact(r.2.1 hp).2.2 (by omega)
  ·rcases hm with h' | h' <;> omega
 ·intro _ j hj;rw[s5] at hj;have r:=h.r7 hm j hj;have e4:=(a0m (hun j)).2.2.2.1;have e7:=(a0m (hun j)).2.2.2.2.2.2
  have wh:∀y,cQ (uV x i) y->cQ x y:=λy hy=>by
   refine⟨hy.1,?_⟩;have:=hy.2;rw[hcol] at this;by_cases e:y.a.toNat=i
   ·rw[if_pos e] at this;omega
   ·rw[if_neg e] at this;exact this
  refine⟨λhh=>r.1 ⟨?_,?_,?_⟩,λk hk=>?_⟩
  ·unfold cY;rw[<-e4];exact hh.1
  ·have:=hh.2.1;rw[hcol] at this;by_cases e:j=i
   ·rw[if_pos e] at this;omega
   ·rw[if_neg e] at this;exact this
  ·rw[<-s6,<-s7];exact hh.2.2
  ·have e8:((uV x i).c j).p k=(x.c j).p k:=by simp only [Cl.p,e7]
   rw[e8]
   have hk':k<cC x j:=by
    unfold cC at hk ⊢;rw[hcol j,e7,s6,s8] at hk;by_cases e:j=i
    ·subst e;rw[if_pos rfl,if_neg (by omega)] at hk;rw[if_neg (by omega)]
     split at hk
     ·rename_i hh;rw[hg] at hh;rcases Nat.eq_zero_or_pos x.gray.length with h0 | h0
      ·have:=(h.r6.2.1 hh.1).2.1 h0;omega
      ·have:x.gray.getD 0 0=(j:Int):=by
        cases hx:x.gray with
        | nil=>rw[hx] at h0;simp at h0
        | cons a l=>rw[hx] at hh;simpa using hh.2.2
       rw[if_pos ⟨hh.1,by omega,this⟩];exact hk
     ·omega
    ·rw[if_neg e] at hk;by_cases h2:(x.c j).color=2
     ·rw[if_pos h2] at hk ⊢;exact hk
     ·rw[if_neg h2] at hk ⊢
      split at hk
      ·rename_i hh;rw[hg] at hh;rcases Nat.eq_zero_or_pos x.gray.length with h0 | h0
       ·have:=(h.r6.2.1 hh.1).2.1 h0;omega
       ·have:x.gray.getD 0 0=(j:Int):=by
         cases hx:x.gray with
         | nil=>rw[hx] at h0;simp at h0
         | cons a l=>rw[hx] at hh;simpa using hh.2.2
        rw[if_pos ⟨hh.1,by omega,this⟩];exact hk
      ·omega
   have:=r.2 k hk';exact⟨λw=>this.1 (wh _ w),λw=>this.2 (wh _ w)⟩
def dD(x:Hp)(p h:Int):Hp:={ x with phase:=p,hand:=h,sub:=0 }
def tJ(c:Cl):Bool:=c.last == 1 || c.last == 2
theorem a8k(c:Cl):tJ c=true↔cY c:=by simp [tJ,cY]
def uY(x:Hp)(y:Wd):Hp:=if (y.k == 2)=true then uV x y.a.toNat else x
def qC(x:Hp):Hp:=if x.hand=x.cells.length then dD x 2 0 else
 let z:=if tJ (x.c x.hand.toNat)=true then uV x x.hand.toNat else x
 { z with hand:=x.hand+1 }
def qK(x:Hp):Hp:=x.regs.foldl uY x
def a1d(c:Cl):Cl:={ c with color:=2 }
def eC(x:Hp):Hp:=
 match x.gray with
 | g::G=>
  if x.sub<(x.c g.toNat).prs.length then
   let p:=(x.c g.toNat).p x.sub.toNat
   { uY (uY x p.key) p.val with sub:=x.sub+1 }
  else { x with cells:=x.cells.set g.toNat (a1d (x.c g.toNat)),gray:=G,sub:=0 }
 | []=>if (qK x).gray=[] then dD (qK x) 3 0 else qK x
def qN(x:Hp)(y:Wd):Prop:=y.k=2->y.a.toNat<x.cells.length/\(x.c y.a.toNat).st=1
theorem Snd.shdW(h:Snd x)(y:Wd)(hy:qN x y):Snd (uY x y):=by
 unfold Go.Proofs.YtddkhnclmeikfaaGreat.uY
 split
 ·rename_i e;exact h.shade _ (hy (by simpa using e)).1
 ·exact h
theorem a0b(x:Hp)(y:Wd):(uY x y).regs=x.regs/\(uY x y).cells.length=x.cells.length/\(uY x y).phase=x.phase/\(uY x y).hand=x.hand/\(uY x y).sub=x.sub:=by
 unfold uY
 split
 ·obtain⟨_,_,_,s4,s5,s6,s7,s8,_⟩:=dH x y.a.toNat;exact⟨s4,s5,s6,s7,s8⟩
 ·exact⟨rfl,rfl,rfl,rfl,rfl⟩
theorem a4k(x:Hp)(y:Wd)(hy:qN x y)(q:Nat):((uY x y).c q).un=(x.c q).un:=by
 unfold uY
 split
 ·rename_i e;exact a5v x _ (hy (by simpa using e)).1 q
 ·rfl
theorem qN.keep{y:Wd}(h:qN x y)(hl:z.cells.length=x.cells.length)(hu:∀q,(z.c q).un=(x.c q).un):qN z y:=λhk=>⟨by rw[hl];exact(h hk).1,by rw[(a0m (hu _)).1];exact(h hk).2⟩
theorem a1r(x:Hp)(i:Nat)(hi:i<x.cells.length)(hm:uE x)(hs:(x.c i).st=1):((uV x i).c i).color≠0:=by
 rw[a6x x i hi i];by_cases hb:qU x i=true
 ·rw[if_pos ⟨hb,rfl⟩];simp [tN]
 ·rw[if_neg (λe=>hb e.1)];intro e;refine hb ?_;have:mkB x=true:=by unfold mkB;rcases hm with h | h <;> simp [h]
  simp [qU,whB,this,hs,e]
theorem b9c(x:Hp)(i:Nat)(hi:i<x.cells.length)(q:Nat)(h:(x.c q).color≠0):((uV x i).c q).color≠0:=by
 rw[a6x x i hi q]
 split
 ·simp [tN]
 ·exact h
theorem a9o(x:Hp)(y:Wd)(hy:qN x y)(hm:uE x):¬cQ (uY x y) y:=λh=>by
 have e:(y.k == 2)=true:=by simpa using h.1
 have:=hy h.1;unfold uY at h;rw[if_pos e] at h;exact a1r x _ this.1 hm this.2 h.2
theorem b0m(x:Hp)(y:Wd)(hy:qN x y)(q:Nat)(h:(x.c q).color≠0):((uY x y).c q).color≠0:=by
 unfold uY
 split
 ·rename_i e;exact b9c x _ (hy (by simpa using e)).1 q h
 ·exact h
theorem Snd.good_pair(h:Snd x)(hm:uE x)(i k:Nat)(hi:i<x.cells.length)(hk:k<(x.c i).prs.length):qN x ((x.c i).p k).key/\qN x ((x.c i).p k).val:=by
 have nd:¬cU x i:=λd=>by have:=d.1;rcases hm with h' | h' <;> omega
 have r:=((h.r4.2 i hi).2 k hk).2 nd;have hmen:cX x i k:=⟨by rcases hm with h' | h' <;> omega,λh5=>by rcases hm with h' | h' <;> omega⟩
 have go:∀y,cN x y (¬cX x i k)->qN x y:=λy hy hk2=>by
  have hf:uK y x.cells.length:=hy.1;rcases hy.2 hk2 with⟨_,h2⟩ | ⟨h1,_⟩
  ·exact(h2 hmen).elim
  ·refine⟨?_,h1⟩;rcases hf with f | f | f
   ·omega
   ·omega
   ·omega
 exact⟨go _ r.1,go _ r.2⟩
theorem Snd.good_reg(h:Snd x)(i:Nat)(hi:i<x.regs.length):qN x x.regs[i]:=λhk=>by
 have r:=h.r4.1 i hi;rcases r.2 hk with⟨_,h2⟩ | ⟨h1,_⟩
 ·exact h2.elim
 ·refine⟨?_,h1⟩;rcases r.1 with f | f | f <;> omega
theorem Snd.hand(h:Snd x)(hm:uE x)(p hd sb:Int)(hp:p=1\/p=2)(h1:0<=hd/\hd<=x.cells.length)(h2:0<=sb/\sb<=200)(h6:R6 { x with phase:=p,hand:=hd,sub:=sb })(h7:R7 { x with phase:=p,hand:=hd,sub:=sb }):Snd { x with phase:=p,hand:=hd,sub:=sb }:=by
 have r:=h.r1;have np:p≠3/\p≠4/\p≠5/\p≠6:=by omega
 have nx:x.phase≠3/\x.phase≠4/\x.phase≠5/\x.phase≠6:=by rcases hm with h' | h' <;> omega
 have qH:∀(w:Wd) (m m':Prop),(m->m')->cN x w m->cN { x with phase:=p,hand:=hd,sub:=sb } w m':=λw m m' hmm hl=>by
  refine⟨hl.1,λhk=>?_⟩;rcases hl.2 hk with⟨a,b⟩ | ⟨a,_⟩
  ·exact .inl ⟨a,hmm b⟩
  ·exact .inr ⟨a,λd=>np.1 d.1⟩
 have men:∀i k,cX { x with phase:=p,hand:=hd,sub:=sb } i k:=λi k=>⟨np.2.1,λe=>(np.2.2.1 e).elim⟩
 have men':∀i k,cX x i k:=λi k=>⟨nx.2.1,λe=>(nx.2.2.1 e).elim⟩
 have nd:∀i,¬cU x i:=λi d=>nx.1 d.1
 refine⟨⟨r.room,r.regs,r.cells,r.gray,r.born,r.rounds,r.forced,r.per,r.start,by show 0<=p/\p<=6;omega,h1,h2⟩,⟨λi hi=>?_,h.r2.2⟩,h.r3,⟨λi hi=>qH _ _ _ id (h.r4.1 i hi),λi hi=>⟨λd=>np.1 d.1.1,λk hk=>⟨λd=>(np.1 d.1).elim,λ_=>?_⟩⟩⟩,⟨λn=>(n hp).elim,λi hi=>?_,h.r5.2.2⟩,h6,h7,λi hi e=>np.2.2.2 e.1⟩
 ·rcases h.r2.1 i hi with a | ⟨_,b⟩ | a
  ·exact .inl a
  ·have:=b.2.1;rcases hm with h' | h' <;> omega
  ·exact .inr (.inr a)
 ·have:=((h.r4.2 i hi).2 k hk).2 (nd i);exact⟨qH _ _ _ (λe=>(e (men' i k)).elim) this.1,qH _ _ _ (λe=>(e (men' i k)).elim) this.2⟩
 ·have c:=h.r5.2.1 i hi;exact⟨c.1,c.2.1,λ_=>.inl hp⟩
theorem Snd.u1(h:Snd x)(hp:x.phase=1):Snd (qC x):=by
 unfold Go.Proofs.YtddkhnclmeikfaaGreat.qC;have hm:uE x:=.inl hp;have hsub:x.sub=0:=h.r6.2.2.2 (.inl hp)
 split
 ·rename_i he;refine h.hand hm 2 0 0 (.inr rfl) ⟨by omega,by omega⟩ ⟨by omega,by omega⟩ ?_ ?_
  ·refine⟨λe=>?_,λ_=>⟨rfl,λ_=>rfl,λ_=>?_⟩,λe=>?_,λe=>?_⟩
   ·have e':(2:Int)=0\/(2:Int)=4:=e;omega
   ·show(0:Int)<=_;omega
   ·have e':(2:Int)=5:=e;omega
   ·have e':(2:Int)=1\/(2:Int)=3\/(2:Int)=6:=e;omega
  ·intro _ i hi;have r:=h.r7 hm i hi;refine⟨λe=>r.1 ⟨e.1,e.2.1,.inr ?_⟩,λk hk=>r.2 k ?_⟩
   ·have:i<x.cells.length:=hi;omega
   ·unfold cC at hk ⊢;by_cases h2:(x.c i).color=2
    ·rw[if_pos (show(({ x with phase:=2,hand:=0,sub:=0 }:Hp).c i).color=2 from h2)] at hk;rw[if_pos h2];exact hk
    ·rw[if_neg (show ¬(({ x with phase:=2,hand:=0,sub:=0 }:Hp).c i).color=2 from h2)] at hk
     split at hk
     ·simp at hk
     ·omega
 ·rename_i hne;have hh:=h.r1.hand;obtain⟨i,hi⟩:∃i:Nat,x.hand=(i:Int):=⟨x.hand.toNat,by omega⟩;have hin:i<x.cells.length:=by omega
  have ei:x.hand.toNat=i:=by omega
  rw[ei];obtain⟨z,hz⟩:∃z,z=(if tJ (x.c i)=true then uV x i else x):=⟨_,rfl⟩;have hS:Snd z:=by rw[hz];split;exact h.shade i hin;exact h
  have hz1:z.phase=x.phase/\z.hand=x.hand/\z.sub=x.sub/\z.cells.length=x.cells.length:=by
   rw[hz];split
   ·obtain⟨_,_,_,_,s5,s6,s7,s8,_⟩:=dH x i;exact⟨s6,s7,s8,s5⟩
   ·exact⟨rfl,rfl,rfl,rfl⟩
  have hw:cY (z.c i)->(z.c i).color≠0:=by
   rw[hz]
   split
   ·rename_i e
    have hs:(x.c i).st=1:=by
     have hsp:=(a8k _).1 e;rcases h.r2.1 i hin with⟨_,b,_⟩ | ⟨_,b⟩ | ⟨a,_⟩
     ·have:=b.2.2.1;rcases hsp with q | q <;> omega
     ·have:=b.1.2.2.1;rcases hsp with q | q <;> omega
     ·exact a
    exact λ_=>a1r x i hin hm hs
   ·rename_i e;exact λq=>(e ((a8k _).2 q)).elim
  suffices hgoal:Snd { z with hand:=x.hand+1 } by rw[hz] at hgoal;exact hgoal
  have hmz:uE z:=by unfold uE;rw[hz1.1];exact hm
  have e0:({ z with hand:=x.hand+1 }:Hp)={ z with phase:=z.phase,hand:=x.hand+1,sub:=z.sub }:=rfl;rw[e0];have r6:=hS.r6;refine hS.hand hmz z.phase (x.hand+1) z.sub hmz ⟨by omega,by rw[hz1.2.2.2];omega⟩ ⟨by have:=hS.r1.sub;omega,by have:=hS.r1.sub;omega⟩ ?_ ?_
  ·refine⟨λe=>?_,λe=>?_,λe=>?_,λ_=>?_⟩
   ·have e':z.phase=0\/z.phase=4:=e;rw[hz1.1] at e';omega
   ·have e':z.phase=2:=e;rw[hz1.1] at e';omega
   ·have e':z.phase=5:=e;rw[hz1.1] at e';omega
   ·show z.sub=0;rw[hz1.2.2.1];exact hsub
  ·intro _ j hj;have r:=hS.r7 hmz j hj;refine⟨λe=>?_,λk hk=>r.2 k hk⟩;have e3:z.phase=2\/(j:Int)<x.hand+1:=e.2.2;by_cases ej:j=i
   ·subst ej;exact hw e.1 e.2.1
   ·refine r.1 ⟨e.1,e.2.1,?_⟩;rcases e3 with q | q
    ·exact .inl q
    ·right;rw[hz1.2.1];omega
structure Shd(x z:Hp):Prop where
 s:Snd z
 regs:z.regs=x.regs
 len:z.cells.length=x.cells.length
 phase:z.phase=x.phase
 hand:z.hand=x.hand
 sub:z.sub=x.sub
 un:∀q,(z.c q).un=(x.c q).un
 mono:∀q,(x.c q).color≠0->(z.c q).color≠0
 gray:∃L,z.gray=x.gray++L
theorem Shd.refl(h:Snd x):Shd x x:=⟨h,rfl,rfl,rfl,rfl,rfl,λ_=>rfl,λ_ h=>h,[],by simp⟩
theorem b0n(x:Hp)(y:Wd):∃L,(uY x y).gray=x.gray++L:=by
 unfold uY uV
 split
 ·split
  ·exact⟨_,rfl⟩
  ·exact⟨[],by simp⟩
 ·exact⟨[],by simp⟩
theorem Shd.step(h:Shd x z)(y:Wd)(hy:qN x y):Shd x (uY z y)/\(uE x->¬cQ (uY z y) y):=by
 have hz:qN z y:=hy.keep h.len h.un;obtain⟨a1,a2,a3,a4,a5⟩:=a0b z y;obtain⟨L,hL⟩:=h.gray;obtain⟨M,hM⟩:=b0n z y;refine⟨⟨h.s.shdW y hz,a1.trans h.regs,a2.trans h.len,a3.trans h.phase,a4.trans h.hand,a5.trans h.sub,λq=>(a4k z y hz q).trans (h.un q),λq hq=>b0m z y hz q (h.mono q hq),L++M,by rw[hM,hL,List.append_assoc]⟩,λhm=>a9o z y hz (by unfold uE;rw[h.phase];exact hm)⟩
theorem b1p{y u:Wd}(hy:qN z y)(h:¬cQ z u):¬cQ (uY z y) u:=λw=>h ⟨w.1,by
 rcases Int.decEq (z.c u.a.toNat).color 0 with hn | he
 ·exact absurd w.2 (b0m z y hy _ hn)
 ·exact he⟩
theorem Shd.fold{x:Hp}(hm:uE x):∀(ys:List Wd) (z:Hp),(∀y,y∈ys->qN x y)->Shd x z->Shd x (ys.foldl uY z)/\(∀y,y∈ys->¬cQ (ys.foldl uY z) y)/\∀u,¬cQ z u->¬cQ (ys.foldl uY z) u
 | [],z,_,h=>⟨h,λy hy=>(by cases hy),λ_ h=>h⟩
 | y::ys,z,hg,h=>by
  have st:=h.step y (hg y (List.mem_cons_self ..));obtain⟨q1,q2,q3⟩:=Shd.fold hm ys (uY z y) (λu hu=>hg u (List.mem_cons_of_mem _ hu)) st.1;have hz:qN z y:=(hg y (List.mem_cons_self ..)).keep h.len h.un;refine⟨q1,λu hu=>?_,λu hu=>q3 u (b1p hz hu)⟩;rcases List.mem_cons.1 hu with e | e
  ·rw[e];exact q3 y (st.2 hm)
  ·exact q2 u e
theorem b9d(h:∀q,(z.c q).un=(x.c q).un)(q:Nat):(z.c q).prs=(x.c q).prs:=(a0m (h q)).2.2.2.2.2.2
theorem un_p(h:∀q,(z.c q).un=(x.c q).un)(q k:Nat):(z.c q).p k=(x.c q).p k:=by simp only [Cl.p,b9d h q]
theorem Snd.u2a(h:Snd x)(hp:x.phase=2)(g:Int)(G:List Int)(hg:x.gray=g::G)(hs:x.sub<(x.c g.toNat).prs.length):Snd { uY (uY x ((x.c g.toNat).p x.sub.toNat).key) ((x.c g.toNat).p x.sub.toNat).val with sub:=x.sub+1 }:=by
 have hm:uE x:=.inr hp;have hgr:=h.r5.2.2 g (by rw[hg];exact List.mem_cons_self ..);have hs0:=h.r1.sub;have hi:g.toNat<x.cells.length:=by omega
 have hk:x.sub.toNat<(x.c g.toNat).prs.length:=by omega
 obtain⟨g1,g2⟩:=h.good_pair hm g.toNat x.sub.toNat hi hk;obtain⟨p,hpp⟩:∃p,p=(x.c g.toNat).p x.sub.toNat:=⟨_,rfl⟩;rw[<-hpp] at g1 g2 ⊢;have s1:=(Shd.refl h).step p.key g1;have s2:=s1.1.step p.val g2;have w1:¬cQ (uY (uY x p.key) p.val) p.key:=b1p (g2.keep s1.1.len s1.1.un) (s1.2 hm);have w2:=s2.2 hm;obtain⟨z,hz⟩:∃z,z=uY (uY x p.key) p.val:=⟨_,rfl⟩;rw[<-hz] at s2 w1 w2 ⊢;obtain⟨s2,_⟩:=s2;obtain⟨L,hL⟩:=s2.gray;have hzg:z.gray=g::(G++L):=by rw[hL,hg];rfl
 have hmz:uE z:=by unfold uE;rw[s2.phase];exact hm
 have h6:=s2.s.r6;have hp200:=h.ok.p200 g.toNat hi;have e0:({ z with sub:=x.sub+1 }:Hp)={ z with phase:=z.phase,hand:=z.hand,sub:=x.sub+1 }:=rfl;rw[e0];refine s2.s.hand hmz z.phase z.hand (x.sub+1) hmz s2.s.r1.hand ⟨by omega,by omega⟩ ?_ ?_
 ·refine⟨λe=>?_,λe=>⟨(h6.2.1 e).1,λe2=>?_,λ_=>?_⟩,λe=>?_,λe=>?_⟩
  ·have e':z.phase=0\/z.phase=4:=e;rw[s2.phase] at e';omega
  ·have e':z.gray.length=0:=e2;rw[hzg] at e';simp at e'
  ·have:({ z with phase:=z.phase,hand:=z.hand,sub:=x.sub+1 }:Hp).g0=g.toNat:=by unfold Hp.g0;show(z.gray.getD 0 0).toNat=_;rw[hzg];rfl
   rw[this];show x.sub+1<=((z.c g.toNat).prs.length:Int);rw[b9d s2.un];omega
  ·have e':z.phase=5:=e;rw[s2.phase] at e';omega
  ·have e':z.phase=1\/z.phase=3\/z.phase=6:=e;rw[s2.phase] at e';omega
 ·intro _ j hj;have r:=s2.s.r7 hmz j hj;refine⟨λe=>r.1 e,λk hkk=>?_⟩;have same:∀y,cQ ({ z with phase:=z.phase,hand:=z.hand,sub:=x.sub+1 }:Hp) y->cQ z y:=λy hy=>hy
  have key:k<cC z j\/(j=g.toNat/\k=x.sub.toNat):=by
   unfold cC at hkk ⊢;have hkk':k<if (z.c j).color=2 then (z.c j).prs.length else if z.phase=2/\z.gray.length≠0/\z.gray.getD 0 0=(j:Int) then (x.sub+1).toNat else 0:=hkk
   by_cases c2:(z.c j).color=2
   ·rw[if_pos c2] at hkk' ⊢;exact .inl hkk'
   ·rw[if_neg c2] at hkk' ⊢
    split at hkk'
    ·rename_i hh;rw[if_pos hh];have ej:j=g.toNat:=by have:=hh.2.2;rw[hzg] at this;simp at this;omega
     rw[s2.sub];by_cases ek:k=x.sub.toNat
     ·exact .inr ⟨ej,ek⟩
     ·left;omega
    ·omega
  rcases key with q | ⟨q1,q2⟩
  ·exact⟨λe=>(r.2 k q).1 (same _ e),λe=>(r.2 k q).2 (same _ e)⟩
  ·subst q1 q2
   have e9:(({ z with phase:=z.phase,hand:=z.hand,sub:=x.sub+1 }:Hp).c g.toNat).p x.sub.toNat=p:=by
    show(z.c g.toNat).p x.sub.toNat=p;rw[un_p s2.un,<-hpp]
   rw[e9];exact⟨λe=>w1 (same _ e),λe=>w2 (same _ e)⟩
theorem Snd.u2b  (h : Snd x) (hp : x.phase = 2) (g : Int) (G : List Int) (hg : x.gray = g :: G) (hs : ¬ x.sub < (x.c g.toNat).prs.length) : Snd { x with cells := x.cells.set g.toNat (a1d (x.c g.toNat)), gray := G, sub := 0 } := by
  have hm : uE x := .inr hp
  have hgm : g ∈ x.gray := by rw [hg]; exact List.mem_cons_self ..
  have hgr := h.r5.2.2 g hgm
  have hi : g.toNat < x.cells.length := by omega
  have eg : ((g.toNat : Nat) : Int) = g := by omega
  have hu := a9m h.r2 h.r5 g hgm
  have hsub : x.sub = ((x.c g.toNat).prs.length : Int) := by
    have := (h.r6.2.1 hp).2.2 (by rw [hg]; simp)
    have e : x.g0 = g.toNat := by unfold Hp.g0; rw [hg]; rfl
    rw [e] at this; omega
  obtain ⟨y, hy⟩ : ∃ y : Hp, y = { x with cells := x.cells.set g.toNat (a1d (x.c g.toNat)), gray := G, sub := 0 } := ⟨_, rfl⟩
  have hc : ∀ q, y.c q = if q = g.toNat then a1d (x.c g.toNat) else x.c q := λq => by
    have := Hp.c_set x g.toNat (a1d (x.c g.toNat)) hi q
    rw [hy]; exact this
  have hl : y.cells.length = x.cells.length := by rw [hy]; simp
  have hph : y.phase = x.phase := by rw [hy]
  have hhd : y.hand = x.hand := by rw [hy]
  have hyg : y.gray = G := by rw [hy]
  have hys : y.sub = 0 := by rw [hy]
  have hr1 : y.room = x.room /\ y.used = x.used /\ y.born = x.born /\ y.regs = x.regs /\ y.per = x.per /\ y.start = x.start /\ y.rounds = x.rounds /\ y.forced = x.forced := by rw [hy]; exact ⟨rfl, rfl, rfl, rfl, rfl, rfl, rfl, rfl⟩
  have hun : ∀ q, (y.c q).un = (x.c q).un := λq => by
    rw [hc q]; by_cases e : q = g.toNat
    · rw [if_pos e, e]; rfl
    · rw [if_neg e]
  have hcol : ∀ q, (y.c q).color = if q = g.toNat then 2 else (x.c q).color := λq => by
    rw [hc q]; by_cases e : q = g.toNat
    · rw [if_pos e, if_pos e]; rfl
    · rw [if_neg e, if_neg e]
  have hunits : dN y.cells = dN x.cells := by
    have : y.cells = x.cells.set g.toNat (a1d (x.c g.toNat)) := by rw [hy]
    rw [this]
    exact a3g _ _ _ hi (by rw [Hp.c_eq x _ hi]; rfl)
  rw [<- hy]
  clear hy
  obtain ⟨z, hz⟩ : ∃ z : Hp, z = { x with sub := 0 } := ⟨_, rfl⟩
  have zc : ∀ q, z.c q = x.c q := λq => by rw [hz]; rfl
  have h2 : R2 z := by rw [hz]; exact h.r2
  have h3 : R3 z := by rw [hz]; exact h.r3
  have h4 : R4 z := by
    have men : ∀ i k, ¬ cX x i k -> ¬ cX z i k := λi k e e' => e ⟨by have := e'.1; rw [hz] at this; exact this, λh5 => by omega⟩
    have qH : ∀ (w : Wd) (m m' : Prop), (m -> m') -> cN x w m -> cN z w m' := λw m m' hmm hl => by
      refine ⟨by rw [hz]; exact hl.1, λhk => ?_⟩
      rw [zc]
      rcases hl.2 hk with ⟨a, b⟩ | ⟨a, _⟩
      · exact .inl ⟨a, hmm b⟩
      · exact .inr ⟨a, λd => by have := d.1; rw [hz] at this; have : x.phase = 3 := this; omega⟩
    have nd : ∀ i, ¬ cU z i := λi d => by have := d.1; rw [hz] at this; have : x.phase = 3 := this; omega
    refine ⟨λi hi' => ?_, λi hi' => ⟨λd => nd i d.1, λk hk => ⟨λd => (nd i d).elim, λ_ => ?_⟩⟩⟩
    · have e : z.regs = x.regs := by rw [hz]
      have hi2 : i < x.regs.length := by rw [<- e]; exact hi'
      have e2 : z.regs[i] = x.regs[i] := by simp [e]
      rw [e2]; exact qH _ _ _ id (h.r4.1 i hi2)
    · rw [zc] at hk ⊢
      have := ((h.r4.2 i (by have e : z.cells = x.cells := by rw [hz]
                             rw [<- e]; exact hi')).2 k hk).2 (λd => by have := d.1; omega)
      exact ⟨qH _ _ _ (men i k) this.1, qH _ _ _ (men i k) this.2⟩
  have hmz : uE z := by rw [hz]; exact hm
  obtain ⟨q2, q3, q4, q8⟩ := b0k (x := z) (y := y) hmz (by rw [hph, hz]) (by rw [hhd, hz]) (by rw [hys, hz]) (by rw [hr1.2.2.1, hz]) (by rw [hr1.2.1, hz]) (by rw [hr1.1, hz]) (by rw [hr1.2.2.2.1, hz]) (by rw [hl, hz]) (λq => by rw [zc]; exact hun q) (λq hq => by
    rw [zc, hcol q]
    by_cases e : q = g.toNat
    · right; rw [if_pos e, (a0m (hun q)).1, e]; exact ⟨hu.2, by omega, by omega⟩
    · left; rw [if_neg e]) (by rw [hunits, hz]) h2 h3 h4
  have hmy : uE y := by unfold uE; rw [hph]; exact hm
  have cg : ∀ j : Nat, cnt x.gray j = cnt G j + if j = g.toNat then 1 else 0 := λj => by
    unfold cnt
    rw [hg, List.count_cons]
    by_cases e : j = g.toNat
    · subst e; rw [if_pos rfl]; simp [eg]
    · rw [if_neg e]
      have : ¬ g = (j : Int) := by omega
      simp [this]
  refine ⟨?_, q2, q3, q4, ⟨λn => (n hmy).elim, λj hj => ?_, λk hk => ?_⟩, ?_, ?_, q8⟩
  · have r := h.r1
    have r4 := r.gray
    rw [hg] at r4
    simp at r4
    exact ⟨by rw [hr1.1]; exact r.room, by rw [hr1.2.2.2.1]; exact r.regs, by rw [hl, hr1.1]; exact r.cells, by rw [hyg, hl]; omega, by rw [hr1.2.2.1]; exact r.born, by rw [hr1.2.2.2.2.2.2.1]; exact r.rounds, by rw [hr1.2.2.2.2.2.2.2]; exact r.forced, by rw [hr1.2.2.2.2.1]; exact r.per, by rw [hr1.2.2.2.2.2.1]; exact r.start, by rw [hph]; exact r.phase, by rw [hhd, hl]; exact r.hand, by rw [hys]; omega⟩
  · rw [hl] at hj
    have r := h.r5.2.1 j hj
    have c := cg j
    unfold eE
    rw [hcol j, hyg]
    by_cases e : j = g.toNat
    · subst e
      rw [if_pos rfl] at c ⊢
      have := r.1 hu.1
      exact ⟨λh' => by omega, λ_ => by omega, λ_ => .inl hmy⟩
    · rw [if_neg e] at c ⊢
      exact ⟨λh' => by have := r.1 h'; omega, λh' => by have := r.2.1 h'; omega, λ_ => .inl hmy⟩
  · rw [hyg] at hk
    rw [hl]
    exact h.r5.2.2 k (by rw [hg]; exact List.mem_cons_of_mem _ hk)
  · unfold R6
    rw [hph, hhd, hys]
    refine ⟨λe => by omega, λ_ => ⟨(h.r6.2.1 hp).1, λ_ => rfl, λ_ => by omega⟩, λe => by omega, λe => by omega⟩
  · intro _ j hj
    rw [hl] at hj
    have r := h.r7 hm j hj
    have wh : ∀ u, cQ y u -> cQ x u := λu hw => by
      refine ⟨hw.1, ?_⟩
      have := hw.2
      rw [hcol] at this
      by_cases e : u.a.toNat = g.toNat
      · rw [if_pos e] at this; omega
      · rw [if_neg e] at this; exact this
    refine ⟨λe => r.1 ⟨?_, ?_, .inl hp⟩, λk hk => ?_⟩
    · unfold cY; rw [<- (a0m (hun j)).2.2.2.1]; exact e.1
    · have := e.2.1
      rw [hcol] at this
      by_cases ej : j = g.toNat
      · rw [if_pos ej] at this; omega
      · rw [if_neg ej] at this; exact this
    · rw [un_p hun]
      have hk' : k < cC x j := by
        unfold cC at hk ⊢
        rw [hcol j, b9d hun, hys] at hk
        by_cases ej : j = g.toNat
        · subst ej
          rw [if_pos rfl, if_pos rfl] at hk
          rw [if_neg (by have := hu.1; omega), if_pos ⟨hp, by rw [hg]; simp, by rw [hg]; simp [eg]⟩]
          omega
        · rw [if_neg ej] at hk
          by_cases c2 : (x.c j).color = 2
          · rw [if_pos c2] at hk ⊢; exact hk
          · rw [if_neg c2] at hk
            split at hk
            · simp at hk
            · omega
      have := r.2 k hk'
      exact ⟨λw => this.1 (wh _ w), λw => this.2 (wh _ w)⟩
theorem Snd.look(h:Snd x)(hp:x.phase=2):Shd x (qK x)/\∀i (hi:i<x.regs.length),¬cQ (qK x) x.regs[i]:=by
 have hm:uE x:=.inr hp
 have hg:∀y,y∈x.regs->qN x y:=λy hy=>by
  obtain⟨i,hi,e⟩:=List.getElem_of_mem hy;rw[<-e];exact h.good_reg i hi
 obtain⟨q1,q2,_⟩:=Shd.fold hm x.regs x hg (Shd.refl h);exact⟨q1,λi hi=>q2 _ (List.getElem_mem hi)⟩
theorem Snd.ended(h:Snd x)(hp:x.phase=2)(hg:x.gray=[])(hw:∀i (hi:i<x.regs.length),¬cQ x x.regs[i]):Snd (dD x 3 0):=by
 have hm:uE x:=.inr hp;obtain⟨y,hy⟩:∃y,y=dD x 3 0:=⟨_,rfl⟩;have yc:∀q,y.c q=x.c q:=λq=>by rw[hy];rfl
 have yl:y.cells=x.cells:=by rw[hy];rfl
 have yp:y.phase=3:=by rw[hy];rfl
 have yh:y.hand=0:=by rw[hy];rfl
 have ys:y.sub=0:=by rw[hy];rfl
 have yr:y.regs=x.regs:=by rw[hy];rfl
 have yg:y.gray=[]:=by rw[hy];exact hg
 have y1:y.room=x.room/\y.used=x.used/\y.born=x.born/\y.per=x.per/\y.start=x.start/\y.rounds=x.rounds/\y.forced=x.forced:=by rw[hy];exact⟨rfl,rfl,rfl,rfl,rfl,rfl,rfl⟩
 rw[<-hy];clear hy
 have nog:∀i,i<x.cells.length->(x.c i).color≠1:=λi hi e=>by
  have:=(h.r5.2.1 i hi).1 e;rw[hg] at this;simp [cnt] at this
 have dm:∀i,cU y i↔(x.c i).st=1/\(x.c i).color=0:=λi=>by
  unfold cU;rw[yp,yh,yc];exact⟨λe=>⟨e.2.2.1,e.2.2.2⟩,λe=>⟨rfl,by omega,e.1,e.2⟩⟩
 have qH:∀u,qN x u->uK u x.cells.length->¬cQ x u->∀m,cN y u m:=λu hg1 hf hnw m=>by
  refine⟨by rw[yl];exact hf,λhk=>.inr ⟨by rw[yc];exact(hg1 hk).2,λd=>hnw ⟨hk,((dm _).1 d).2⟩⟩⟩
 have r:=h.r1;refine⟨⟨by rw[y1.1];exact r.room,by rw[yr];exact r.regs,by rw[yl,y1.1];exact r.cells,by rw[yg];simp,by rw[y1.2.2.1];exact r.born,by rw[y1.2.2.2.2.2.1];exact r.rounds,by rw[y1.2.2.2.2.2.2];exact r.forced,by rw[y1.2.2.2.1];exact r.per,by rw[y1.2.2.2.2.1];exact r.start,by rw[yp];omega,by rw[yh];omega,by rw[ys];omega⟩,⟨λi hi=>?_,λi hi=>?_⟩,⟨by rw[y1.2.1,yl];exact h.r3.1,by rw[y1.2.1,y1.1];exact h.r3.2⟩,⟨λi hi=>?_,λi hi=>⟨λe=>?_,λk hk=>⟨λd=>?_,λd=>?_⟩⟩⟩,⟨λ_=>by rw[yg];rfl,λi hi=>?_,λg hg'=>by rw[yg] at hg';cases hg'⟩,?_,λe=>?_,λi hi e=>by have:=e.1;omega⟩
 ·rw[yl] at hi;unfold cE;rw[yc];rcases h.r2.1 i hi with a | ⟨_,b⟩ | ⟨a,b⟩
  ·exact .inl a
  ·have:=b.2.1;omega
  ·exact .inr (.inr ⟨a,b.1,b.2.1,b.2.2.1,by rw[y1.2.2.1];exact b.2.2.2.1,b.2.2.2.2⟩)
 ·rw[yl] at hi;rw[yc];intro hst k hk;rw[yc];exact h.r2.2 i hi hst k hk
 ·have hi2:i<x.regs.length:=by rw[<-yr];exact hi
  have e2:y.regs[i]=x.regs[i]:=by simp [yr]
  rw[e2];exact qH _ (h.good_reg i hi2) (h.r4.1 i hi2).1 (hw i hi2) _
 ·rw[yl] at hi;have d:=(dm i).1 e.1;have sp:cY (x.c i):=by have:=e.2;rw[yc] at this;exact this
  exact(h.r7 hm i hi).1 ⟨sp,d.2,.inl hp⟩
 ·rw[yl] at hi;rw[yc] at hk ⊢;have:=((h.r4.2 i hi).2 k hk).2 (λd=>by have:=d.1;omega);rw[yl];exact⟨this.1.1,this.2.1⟩
 ·rw[yl] at hi;rw[yc] at hk ⊢;have nd:¬((x.c i).st=1/\(x.c i).color=0):=λe=>d ((dm i).2 e)
  have h4:=((h.r4.2 i hi).2 k hk).2 (λd=>by have:=d.1;omega);have gp:=h.good_pair hm i k hi hk
  have hc2:(x.c i).color=2:=by
   rcases h.r2.1 i hi with⟨_,b,_⟩ | ⟨_,b⟩ | ⟨a,b⟩
   ·have:=b.2.2.2.2.2;omega
   ·have:=b.2.1;omega
   ·have:=b.2.2.2.2.1;have:=nog i hi;have:(x.c i).color≠0:=λe=>nd ⟨a,e⟩
    omega
  have lk:k<cC x i:=by unfold cC;rw[if_pos hc2];exact hk
  have:=(h.r7 hm i hi).2 k lk;exact⟨qH _ gp.1 h4.1.1 this.1 _,qH _ gp.2 h4.2.1 this.2 _⟩
 ·rw[yl] at hi;unfold eE;rw[yc,yg,yp,yh];refine⟨λe=>(nog i hi e).elim,λ_=>by simp [cnt],λ_=>.inr ⟨rfl,by omega⟩⟩
 ·unfold R6;rw[yp,yh,ys];exact⟨λe=>by omega,λe=>by omega,λe=>by omega,λ_=>rfl⟩
 ·exfalso;rcases e with e | e <;> omega
theorem Snd.u2(h:Snd x)(hp:x.phase=2):Snd (eC x):=by
 unfold eC
 split
 ·rename_i g G hg
  split
  ·rename_i hs;exact h.u2a hp g G hg hs
  ·rename_i hs;exact h.u2b hp g G hg hs
 ·have lk:=h.look hp
  split
  ·rename_i hg;refine lk.1.s.ended (by rw[lk.1.phase];exact hp) hg (λi hi=>?_);have hi2:i<x.regs.length:=by rw[<-lk.1.regs];exact hi
   have e2:(qK x).regs[i]=x.regs[i]:=by simp [lk.1.regs]
   rw[e2];exact lk.2 i hi2
  ·exact lk.1.s
def a1u(c:Cl):Cl:={ c with color:=0 }
def dE(x:Hp):Hp:=if x.hand=x.cells.length then dD x 4 0 else
 if whB (x.c x.hand.toNat)=true then { x with used:=x.used-(1+(x.c x.hand.toNat).prs.length),cells:=x.cells.set x.hand.toNat Cl0,hand:=x.hand+1 }
 else { x with cells:=x.cells.set x.hand.toNat (a1u (x.c x.hand.toNat)),hand:=x.hand+1 }
theorem a1v(cs:List Cl)(i:Nat)(c:Cl)(hi:i<cs.length):dN (cs.set i c)+cH cs[i]=dN cs+cH c:=by
 induction cs generalizing i with
 | nil=>simp at hi
 | cons a cs ih=>
  cases i with
  | zero=>simp [dN];omega
  | succ i=>
   have:=ih i (by simpa using hi);simp [dN] at this ⊢;omega
theorem Snd.u3end(h:Snd x)(hp:x.phase=3)(he:x.hand=x.cells.length):Snd (dD x 4 0):=by
 have hgr:x.gray.length=0:=h.r5.1 (λe=>by rcases e with e | e <;> omega);have hg:x.gray=[]:=List.eq_nil_of_length_eq_zero hgr;obtain⟨y,hy⟩:∃y,y=dD x 4 0:=⟨_,rfl⟩;have yc:∀q,y.c q=x.c q:=λq=>by rw[hy];rfl
 have yl:y.cells=x.cells:=by rw[hy];rfl
 have yp:y.phase=4:=by rw[hy];rfl
 have yh:y.hand=0:=by rw[hy];rfl
 have ys:y.sub=0:=by rw[hy];rfl
 have yr:y.regs=x.regs:=by rw[hy];rfl
 have yg:y.gray=[]:=by rw[hy];exact hg
 have y1:y.room=x.room/\y.used=x.used/\y.born=x.born/\y.per=x.per/\y.start=x.start/\y.rounds=x.rounds/\y.forced=x.forced:=by rw[hy];exact⟨rfl,rfl,rfl,rfl,rfl,rfl,rfl⟩
 rw[<-hy];clear hy;have nd:∀i,¬cU y i:=λi d=>by have:=d.1;omega
 have ndx:∀i,i<x.cells.length->¬cU x i:=λi hi d=>by have:=d.2.1;omega
 have nom:∀i,i<x.cells.length->(x.c i).st≠2:=λi hi e=>by
  rcases h.r2.1 i hi with⟨a,_⟩ | ⟨_,b⟩ | ⟨a,_⟩
  ·omega
  ·have:=b.2.1;omega
  ·omega
 have r:=h.r1
 have qH:∀u m m',cN x u m->cN y u m':=λu m m' hl=>by
  refine⟨by rw[yl];exact hl.1,λhk=>.inr ⟨?_,nd _⟩⟩;rw[yc];have hlt:u.a.toNat<x.cells.length:=by rcases hl.1 with f | f | f <;> omega
  rcases hl.2 hk with⟨a,_⟩ | ⟨a,_⟩
  ·exact(nom _ hlt a).elim
  ·exact a
 refine⟨⟨by rw[y1.1];exact r.room,by rw[yr];exact r.regs,by rw[yl,y1.1];exact r.cells,by rw[yg];simp,by rw[y1.2.2.1];exact r.born,by rw[y1.2.2.2.2.2.1];exact r.rounds,by rw[y1.2.2.2.2.2.2];exact r.forced,by rw[y1.2.2.2.1];exact r.per,by rw[y1.2.2.2.2.1];exact r.start,by rw[yp];omega,by rw[yh];omega,by rw[ys];omega⟩,⟨λi hi=>?_,λi hi=>?_⟩,⟨by rw[y1.2.1,yl];exact h.r3.1,by rw[y1.2.1,y1.1];exact h.r3.2⟩,⟨λi hi=>?_,λi hi=>⟨λe=>nd i e.1,λk hk=>⟨λd=>(nd i d).elim,λd=>?_⟩⟩⟩,⟨λ_=>by rw[yg];rfl,λi hi=>?_,λg hg'=>by rw[yg] at hg';cases hg'⟩,?_,λe=>?_,λi hi e=>by have:=e.1;omega⟩
 ·rw[yl] at hi;unfold cE;rw[yc];rcases h.r2.1 i hi with a | ⟨_,b⟩ | ⟨a,b⟩
  ·exact .inl a
  ·have:=b.2.1;omega
  ·exact .inr (.inr ⟨a,b.1,b.2.1,b.2.2.1,by rw[y1.2.2.1];exact b.2.2.2.1,b.2.2.2.2⟩)
 ·rw[yl] at hi;rw[yc];intro hst k hk;rw[yc];exact h.r2.2 i hi hst k hk
 ·have hi2:i<x.regs.length:=by rw[<-yr];exact hi
  have e2:y.regs[i]=x.regs[i]:=by simp [yr]
  rw[e2];exact qH _ _ _ (h.r4.1 i hi2)
 ·rw[yl] at hi;rw[yc] at hk ⊢;have h4:=((h.r4.2 i hi).2 k hk).2 (ndx i hi);exact⟨qH _ _ _ h4.1,qH _ _ _ h4.2⟩
 ·rw[yl] at hi;have c:=h.r5.2.1 i hi
  have c2:(x.c i).color≠2:=λe=>by
   rcases c.2.2 e with m | m
   ·rcases m with m | m <;> omega
   ·have:=m.2;omega
  unfold eE;rw[yc,yg];refine⟨λe=>?_,λ_=>by simp [cnt],λe=>(c2 e).elim⟩;have:=c.1 e;rw[hg] at this;simp [cnt] at this
 ·unfold R6;rw[yp,yh,ys];exact⟨λ_=>⟨rfl,rfl⟩,λe=>by omega,λe=>by omega,λe=>by omega⟩
 ·exfalso;rcases e with e | e <;> omega
theorem c0w(c:Cl):whB c=true↔c.st=1/\c.color=0:=by simp [whB]
theorem Snd.nogray(h:Snd x)(hm:¬uE x):x.gray=[]:=List.eq_nil_of_length_eq_zero (h.r5.1 hm)
theorem Snd.nomoved(h:Snd x)(hp:x.phase<4)(i:Nat)(hi:i<x.cells.length):(x.c i).st≠2:=λe=>by
 rcases h.r2.1 i hi with⟨a,_⟩ | ⟨_,b⟩ | ⟨a,_⟩
 ·omega
 ·have:=b.2.1;omega
 ·omega
theorem Snd.u3cell(h:Snd x)(hp:x.phase=3)(i:Nat)(hi:x.hand=(i:Int))(hin:i<x.cells.length)(c':Cl)(u':Int)(hc:(c'=Cl0/\whB (x.c i)=true/\u'=x.used-(1+(x.c i).prs.length))\/(c'=a1u (x.c i)/\¬whB (x.c i)=true/\u'=x.used)):
  Snd { x with used:=u',cells:=x.cells.set i c',hand:=x.hand+1 }:=by
 have hg:=h.nogray (λe=>by rcases e with e | e <;> omega);obtain⟨y,hy⟩:∃y:Hp,y={ x with used:=u',cells:=x.cells.set i c',hand:=x.hand+1 }:=⟨_,rfl⟩;have yc:∀q,y.c q=if q=i then c' else x.c q:=λq=>by rw[hy];exact Hp.c_set x i c' hin q
 have yl:y.cells.length=x.cells.length:=by rw[hy];simp
 have ycs:y.cells=x.cells.set i c':=by rw[hy]
 have yp:y.phase=3:=by rw[hy];exact hp
 have yh:y.hand=x.hand+1:=by rw[hy]
 have ys:y.sub=x.sub:=by rw[hy]
 have yr:y.regs=x.regs:=by rw[hy]
 have yg:y.gray=[]:=by rw[hy];exact hg
 have yu:y.used=u':=by rw[hy]
 have y1:y.room=x.room/\y.born=x.born/\y.per=x.per/\y.start=x.start/\y.rounds=x.rounds/\y.forced=x.forced:=by rw[hy];exact⟨rfl,rfl,rfl,rfl,rfl,rfl⟩
 rw[<-hy];clear hy;have stp:∀q,q≠i->y.c q=x.c q:=λq e=>by rw[yc,if_neg e]
 have sti:y.c i=c':=by rw[yc,if_pos rfl]
 have ci:c'.color=0:=by rcases hc with⟨e,_⟩ | ⟨e,_⟩ <;> rw[e] <;> rfl
 have dmx:cU x i↔whB (x.c i)=true:=by
  rw[c0w];unfold cU;exact⟨λe=>e.2.2,λe=>⟨hp,by omega,e⟩⟩
 have dm:∀q,cU y q->cU x q/\q≠i:=λq d=>by
  obtain⟨_,d2,d3,d4⟩:=d;have hq:q≠i:=λe=>by rw[yh] at d2;omega
  rw[stp q hq] at d3 d4;exact⟨⟨hp,by rw[yh] at d2;omega,d3,d4⟩,hq⟩
 have qH:∀u m,cN x u m->cN y u m:=λu m hl=>by
  refine⟨by rw[yl];exact hl.1,λhk=>?_⟩;have hlt:u.a.toNat<x.cells.length:=by rcases hl.1 with f | f | f <;> omega
  rcases hl.2 hk with⟨a,_⟩ | ⟨a,b⟩
  ·exact(h.nomoved (by omega) _ hlt a).elim
  ·refine .inr ⟨?_,λd=>b (dm _ d).1⟩;by_cases e:u.a.toNat=i
   ·rw[e] at a b ⊢;rcases hc with⟨_,w,_⟩ | ⟨e2,_,_⟩
    ·exact(b (dmx.2 w)).elim
    ·rw[sti,e2];exact a
   ·rw[stp _ e];exact a
 have r:=h.r1;refine⟨⟨by rw[y1.1];exact r.room,by rw[yr];exact r.regs,by rw[yl,y1.1];exact r.cells,by rw[yg];simp,by rw[y1.2.1];exact r.born,by rw[y1.2.2.2.2.1];exact r.rounds,by rw[y1.2.2.2.2.2];exact r.forced,by rw[y1.2.2.1];exact r.per,by rw[y1.2.2.2.1];exact r.start,by rw[yp];omega,by rw[yh,yl];omega,by rw[ys];exact r.sub⟩,⟨λq hq=>?_,λq hq hst k hk hh=>?_⟩,?_,⟨λq hq=>?_,λq hq=>⟨λe=>?_,λk hk=>⟨λd=>?_,λd=>?_⟩⟩⟩,⟨λ_=>by rw[yg];rfl,λq hq=>?_,λg hg'=>by rw[yg] at hg';cases hg'⟩,?_,λe=>?_,λq hq e=>by have:=e.1;omega⟩
 ·rw[yl] at hq;unfold cE;by_cases e:q=i
  ·subst e;rw[sti];rcases hc with⟨e2,_⟩ | ⟨e2,_⟩
   ·rw[e2];exact .inl ⟨rfl,⟨rfl,rfl,rfl,rfl,rfl,rfl⟩,rfl⟩
   ·rw[e2];rcases h.r2.1 q hq with⟨a,b,c⟩ | ⟨a,_⟩ | ⟨a,b⟩
    ·exact .inl ⟨a,⟨b.1,b.2.1,b.2.2.1,b.2.2.2.1,rfl,b.2.2.2.2.2⟩,c⟩
    ·exact(h.nomoved (by omega) q hq a).elim
    ·exact .inr (.inr ⟨a,b.1,b.2.1,b.2.2.1,by rw[y1.2.1];exact b.2.2.2.1,⟨show(0:Int)<=0 by omega,show(0:Int)<=2 by omega⟩,b.2.2.2.2.2⟩)
  ·rw[stp q e];rcases h.r2.1 q hq with a | ⟨a,_⟩ | ⟨a,b⟩
   ·exact .inl a
   ·exact(h.nomoved (by omega) q hq a).elim
   ·exact .inr (.inr ⟨a,b.1,b.2.1,b.2.2.1,by rw[y1.2.1];exact b.2.2.2.1,b.2.2.2.2⟩)
 ·rw[yl] at hq;rcases hc with⟨e2,_⟩ | ⟨e2,_⟩
  ·have n1:q≠i:=λe=>by rw[e,sti,e2] at hst;exact hst rfl
   have n2:k≠i:=λe=>by
    have h1:=hh.1;rw[e,sti,e2] at h1;exact hst h1.symm
   rw[stp q n1,stp k n2] at hh;rw[stp q n1] at hst;exact h.r2.2 q hq hst k hk hh
  ·have same:∀p,(y.c p).st=(x.c p).st/\(y.c p).born=(x.c p).born/\(y.c p).to=(x.c p).to:=λp=>by
    by_cases e:p=i
    ·rw[e,sti,e2];exact⟨rfl,rfl,rfl⟩
    ·rw[stp p e];exact⟨rfl,rfl,rfl⟩
   rw[(same q).1,(same q).2.1,(same q).2.2,(same k).1,(same k).2.1,(same k).2.2] at hh;rw[(same q).1] at hst;exact h.r2.2 q hq hst k hk hh
 ·have hu:=a1v x.cells i c' hin;rw[Hp.c_eq x i hin] at hu;unfold R3;rw[yu,ycs,y1.1];have h3:=h.r3;rcases hc with⟨e2,w,e3⟩ | ⟨e2,w,e3⟩
  ·have h1:cH (x.c i)=1+(x.c i).prs.length:=by unfold cH;rw[if_pos ((c0w _).1 w).1]
   have h2:cH c'=0:=by rw[e2];rfl
   rw[h1,h2] at hu;have:=h3.1;have:=h3.2;exact⟨by omega,by omega⟩
  ·have h2:cH c'=cH (x.c i):=by rw[e2];rfl
   rw[h2] at hu;have:=h3.1;have:=h3.2;exact⟨by omega,by omega⟩
 ·have hi2:q<x.regs.length:=by rw[<-yr];exact hq
  have e2:y.regs[q]=x.regs[q]:=by simp [yr]
  rw[e2];exact qH _ _ (h.r4.1 q hi2)
 ·rw[yl] at hq;obtain⟨d1,d2⟩:=dm q e.1;have sp:=e.2;rw[stp q d2] at sp;exact(h.r4.2 q hq).1 ⟨d1,sp⟩
 ·rw[yl] at hq;obtain⟨d1,d2⟩:=dm q d;rw[stp q d2] at hk ⊢;rw[yl];exact((h.r4.2 q hq).2 k hk).1 d1
 ·rw[yl] at hq
  have mm:∀u,cN x u (¬cX x q k)->cN y u (¬cX y q k):=λu hl=>by
   have:=qH u _ hl;refine⟨this.1,λhk2=>?_⟩;rcases this.2 hk2 with⟨a,b⟩ | b
   ·exfalso;have:cX x q k:=⟨by omega,λh5=>by omega⟩;exact b this
   ·exact .inr b
  by_cases e:q=i
  ·subst e;rw[sti] at hk ⊢;rcases hc with⟨e2,_⟩ | ⟨e2,w,_⟩
   ·rw[e2] at hk;simp [Cl0] at hk
   ·rw[e2] at hk ⊢;have:=((h.r4.2 q hq).2 k hk).2 (λd=>w (dmx.1 d));exact⟨mm _ this.1,mm _ this.2⟩
  ·rw[stp q e] at hk ⊢;have nd:¬cU x q:=λdx=>d ⟨yp,by rw[yh];have:=dx.2.1;omega,by rw[stp q e];exact dx.2.2.1,by rw[stp q e];exact dx.2.2.2⟩
   have:=((h.r4.2 q hq).2 k hk).2 nd;exact⟨mm _ this.1,mm _ this.2⟩
 ·rw[yl] at hq;unfold eE;rw[yg,yp,yh];by_cases e:q=i
  ·subst e;rw[sti,ci];exact⟨λh'=>by omega,λ_=>by simp [cnt],λh'=>by omega⟩
  ·rw[stp q e];have c:=h.r5.2.1 q hq;refine⟨λh'=>?_,λ_=>by simp [cnt],λh'=>.inr ⟨rfl,?_⟩⟩
   ·have:=c.1 h';rw[hg] at this;simp [cnt] at this
   ·rcases c.2.2 h' with m | m
    ·rcases m with m | m <;> omega
    ·have:=m.2;omega
 ·unfold R6;rw[yp,ys];exact⟨λe=>by omega,λe=>by omega,λe=>by omega,λ_=>h.r6.2.2.2 (by omega)⟩
 ·exfalso;rcases e with e | e <;> omega
theorem Snd.u3(h:Snd x)(hp:x.phase=3):Snd (dE x):=by
 unfold dE
 split
 ·rename_i he;exact h.u3end hp he
 ·rename_i hne;have hh:=h.r1.hand;have e:x.hand=((x.hand.toNat:Nat):Int):=by omega
  split
  ·rename_i w;exact h.u3cell hp x.hand.toNat e (by omega) Cl0 _ (.inl ⟨rfl,w,rfl⟩)
  ·rename_i w;have:=h.u3cell hp x.hand.toNat e (by omega) (a1u (x.c x.hand.toNat)) x.used (.inr ⟨rfl,w,rfl⟩);exact this
def mvC(t:Nat):Cl:=⟨2,0,0,0,0,0,t,[]⟩
def mvW(t f:Nat)(r:Wd):Wd:=if r.k=2/\r.a=(f:Int) then ⟨2,0,t⟩ else r
def zN(x:Hp)(t f:Nat):Hp:={ x with cells:=(x.cells.set t (x.c f)).set f (mvC t),regs:=x.regs.map (mvW t f) }
def cD(x:Hp):Nat:=x.cells.findIdx (λc=>c.st == 0)
def a1s(x:Hp):Nat->Int
 | 0=>-1
 | k+1=>if (x.c k).st=1 then (k:Int) else a1s x k
def unit4(x:Hp):Hp:=if a1s x x.cells.length<=(cD x:Int) then dD x 5 0 else zN x (cD x) (a1s x x.cells.length).toNat
theorem a1w (x : Hp) : ∀ k, (a1s x k = -1 /\ ∀ i, i < k -> (x.c i).st ≠ 1) \/ ∃ f : Nat, a1s x k = (f : Int) /\ f < k /\ (x.c f).st = 1 /\ ∀ i, f < i -> i < k -> (x.c i).st ≠ 1
  | 0 => .inl ⟨rfl, λi hi => by omega⟩
  | k + 1 => by
    unfold a1s
    by_cases e : (x.c k).st = 1
    · rw [if_pos e]; exact .inr ⟨k, rfl, by omega, e, λi h1 h2 => by omega⟩
    · rw [if_neg e]
      rcases a1w x k with ⟨h1, h2⟩ | ⟨f, h1, h2, h3, h4⟩
      · exact .inl ⟨h1, λi hi => by
          by_cases ei : i = k
          · rw [ei]; exact e
          · exact h2 i (by omega)⟩
      · exact .inr ⟨f, h1, by omega, h3, λi hi1 hi2 => by
          by_cases ei : i = k
          · rw [ei]; exact e
          · exact h4 i hi1 (by omega)⟩
theorem a0z(x:Hp):cD x<=x.cells.length/\(∀i,i<cD x->(x.c i).st≠0)/\(cD x<x.cells.length->(x.c (cD x)).st=0):=by
 refine⟨List.findIdx_le_length,λi hi e=>?_,λhlt=>?_⟩
 ·have hl:i<x.cells.length:=Nat.lt_of_lt_of_le hi List.findIdx_le_length;have:=List.not_of_lt_findIdx hi;rw[Hp.c_eq x i hl,e] at this;simp at this
 ·have:=List.findIdx_getElem (w:=hlt);rw[<-Hp.c_eq x _ hlt];have h2:x.cells[List.findIdx (λc=>c.st == 0) x.cells].st=0:=by simpa using this
  exact h2
theorem Snd.mv(h:Snd x)(hp:x.phase=4)(t f:Nat)(htf:t<f)(hf:f<x.cells.length)(h0:(x.c t).st=0)(hlow:∀k,k<t->(x.c k).st≠0)(h1:(x.c f).st=1):Snd (zN x t f):=by
 have hg:=h.nogray (λe=>by rcases e with e | e <;> omega);have ht:t<x.cells.length:=by omega
 obtain⟨y,hy⟩:∃y:Hp,y=zN x t f:=⟨_,rfl⟩;have yl:y.cells.length=x.cells.length:=by rw[hy];simp [zN]
 have yc:∀q,y.c q=if q=f then mvC t else if q=t then x.c f else x.c q:=λq=>by
  have e1:=Hp.c_set { x with cells:=x.cells.set t (x.c f) } f (mvC t) (by simpa using hf) q;have e2:=Hp.c_set x t (x.c f) ht q;rw[hy];have e3:(zN x t f).c q=({ x with cells:=(x.cells.set t (x.c f)).set f (mvC t) }:Hp).c q:=rfl;rw[e3,e1,e2]
 have ycs:y.cells=(x.cells.set t (x.c f)).set f (mvC t):=by rw[hy];rfl
 have yp:y.phase=4:=by rw[hy];exact hp
 have yh:y.hand=x.hand:=by rw[hy];rfl
 have ys:y.sub=x.sub:=by rw[hy];rfl
 have yr:y.regs=x.regs.map (mvW t f):=by rw[hy];rfl
 have yg:y.gray=[]:=by rw[hy];exact hg
 have y1:y.room=x.room/\y.used=x.used/\y.born=x.born/\y.per=x.per/\y.start=x.start/\y.rounds=x.rounds/\y.forced=x.forced:=by rw[hy];exact⟨rfl,rfl,rfl,rfl,rfl,rfl,rfl⟩
 rw[<-hy];clear hy;have ycf:y.c f=mvC t:=by rw[yc,if_pos rfl]
 have yct:y.c t=x.c f:=by rw[yc,if_neg (by omega),if_pos rfl]
 have yco:∀q,q≠f->q≠t->y.c q=x.c q:=λq a b=>by rw[yc,if_neg a,if_neg b]
 have nd:∀i,¬cU y i:=λi d=>by have:=d.1;omega
 have ndx:∀i,¬cU x i:=λi d=>by have:=d.1;omega
 have nmd:∀i k,¬cX y i k:=λi k e=>e.1 yp
 have nmx:∀i k,¬cX x i k:=λi k e=>e.1 hp
 have tgt:∀i,i<x.cells.length->(x.c i).st=2->(x.c i).to.toNat≠f/\(x.c i).to.toNat≠t/\(x.c i).to≠(t:Int):=λi hi e=>by
  rcases h.r2.1 i hi with⟨a,_⟩ | ⟨_,b⟩ | ⟨a,_⟩
  ·omega
  ·obtain⟨_,_,b3,b4,b5,b6⟩:=b;refine⟨λe2=>?_,λe2=>?_,λe2=>?_⟩
   ·exact b6 hp t (by omega) h0
   ·rw[e2] at b5;omega
   ·have:(x.c i).to.toNat=t:=by omega
    rw[this] at b5;omega
  ·omega
 have qH:∀u (m m':Prop),m'->cN x u m->cN y u m':=λu m m' hm' hl=>by
  refine⟨by rw[yl];exact hl.1,λhk=>?_⟩;by_cases e:u.a.toNat=f
  ·exact .inl ⟨by rw[e,ycf];rfl,hm'⟩
  ·have e2:u.a.toNat≠t:=λe2=>by
    rcases hl.2 hk with⟨a,_⟩ | ⟨a,_⟩ <;> rw[e2] at a <;> omega
   rw[yco _ e e2];rcases hl.2 hk with⟨a,_⟩ | ⟨a,_⟩
   ·exact .inl ⟨a,hm'⟩
   ·exact .inr ⟨a,nd _⟩
 have r:=h.r1;refine⟨⟨by rw[y1.1];exact r.room,by rw[yr,List.length_map];exact r.regs,by rw[yl,y1.1];exact r.cells,by rw[yg];simp,by rw[y1.2.2.1];exact r.born,by rw[y1.2.2.2.2.2.1];exact r.rounds,by rw[y1.2.2.2.2.2.2];exact r.forced,by rw[y1.2.2.2.1];exact r.per,by rw[y1.2.2.2.2.1];exact r.start,by rw[yp];omega,by rw[yh,yl];exact r.hand,by rw[ys];exact r.sub⟩,⟨λq hq=>?_,λq hq hst k hk hh=>?_⟩,?_,⟨λq hq=>?_,λq hq=>⟨λe=>nd q e.1,λk hk=>⟨λd=>(nd q d).elim,λ_=>?_⟩⟩⟩,⟨λ_=>by rw[yg];rfl,λq hq=>?_,λg hg'=>by rw[yg] at hg';cases hg'⟩,?_,λe=>?_,λq hq e=>by have:=e.1;omega⟩
 ·rw[yl] at hq;unfold cE;by_cases e:q=f
  ·subst e;rw[ycf];refine .inr (.inl ⟨rfl,⟨rfl,rfl,rfl,rfl,rfl,rfl⟩,by rw[yp];omega,show(0:Int)<=(t:Int) by omega,show(t:Int)<(q:Int) by omega,?_,λ_ k hk=>?_⟩)
   ·show(y.c (t:Int).toNat).st=1;have:((t:Int)).toNat=t:=by omega
    rw[this,yct];exact h1
   ·have hk':(k:Int)<(t:Int):=hk;rw[yco k (by omega) (by omega)];exact hlow k (by omega)
  ·by_cases e2:q=t
   ·subst e2;rw[yct];rcases h.r2.1 f hf with⟨a,_⟩ | ⟨a,_⟩ | ⟨a,b⟩
    ·omega
    ·omega
    ·exact .inr (.inr ⟨a,b.1,b.2.1,b.2.2.1,by rw[y1.2.2.1];exact b.2.2.2.1,b.2.2.2.2⟩)
   ·rw[yco q e e2];rcases h.r2.1 q hq with a | ⟨a,b⟩ | ⟨a,b⟩
    ·exact .inl a
    ·obtain⟨t1,t2,_⟩:=tgt q hq a;refine .inr (.inl ⟨a,b.1,by rw[yp];omega,b.2.2.1,b.2.2.2.1,by rw[yco _ t1 t2];exact b.2.2.2.2.1,λ_ k hk=>?_⟩);by_cases ek:k=f
     ·rw[ek,ycf];simp [mvC]
     ·by_cases ek2:k=t
      ·rw[ek2,yct];omega
      ·rw[yco k ek ek2];exact b.2.2.2.2.2 hp k hk
    ·exact .inr (.inr ⟨a,b.1,b.2.1,b.2.2.1,by rw[y1.2.2.1];exact b.2.2.2.1,b.2.2.2.2⟩)
 ·rw[yl] at hq
  have key:∀p p',p<x.cells.length->p'<x.cells.length->p≠p'->(x.c p).st≠0->¬((x.c p').st=(x.c p).st/\(x.c p').born=(x.c p).born/\(x.c p').to=(x.c p).to):=λp p' hp1 hp2 hne hs e=>by
   rcases Nat.lt_or_gt_of_ne hne with l | l
   ·exact h.r2.2 p' hp2 (by rw[e.1];exact hs) p l ⟨e.1.symm,e.2.1.symm,e.2.2.symm⟩
   ·exact h.r2.2 p hp1 hs p' l e
  have hkl:k<x.cells.length:=by omega
  have other:∀p,p<x.cells.length->p≠f->p≠t->¬((x.c p).st=2/\(x.c p).to=(t:Int)):=λp hp1 _ _ e=>(tgt p hp1 e.1).2.2 e.2
  by_cases q1:q=f
  ·subst q1;rw[ycf] at hh hst;by_cases k2:k=t
   ·subst k2;rw[yct] at hh;have:=hh.1;simp [mvC] at this;omega
   ·rw[yco k (by omega) k2] at hh;exact other k hkl (by omega) k2 ⟨hh.1,hh.2.2⟩
  ·by_cases q2:q=t
   ·subst q2;rw[yct] at hh hst;rw[yco k (by omega) (by omega)] at hh;exact key f k hf hkl (by omega) hst hh
   ·rw[yco q q1 q2] at hh hst;by_cases k1:k=f
    ·subst k1;rw[ycf] at hh;exact other q hq q1 q2 ⟨hh.1.symm,hh.2.2.symm⟩
    ·by_cases k2:k=t
     ·subst k2;rw[yct] at hh;exact key q f hq hf q1 hst hh
     ·rw[yco k k1 k2] at hh;exact h.r2.2 q hq hst k hk hh
 ·have hu1:=a1v x.cells t (x.c f) ht;have hu2:=a1v (x.cells.set t (x.c f)) f (mvC t) (by simpa using hf);rw[Hp.c_eq x t ht] at hu1
  have e1:(x.cells.set t (x.c f))[f]'(by simpa using hf)=x.c f:=by
   rw[List.getElem_set_ne (by omega),Hp.c_eq x f hf]
  rw[e1] at hu2;have z1:cH (x.c t)=0:=by unfold cH;rw[if_neg (by omega)]
  have z2:cH (mvC t)=0:=by unfold cH;rw[if_neg (by simp [mvC])]
  unfold R3;rw[y1.2.1,y1.1,ycs];have:=h.r3.1;have:=h.r3.2;exact⟨by omega,by omega⟩
 ·have hq2:q<x.regs.length:=by rw[yr,List.length_map] at hq;exact hq
  have e2:y.regs[q]=mvW t f x.regs[q]:=by simp [yr]
  rw[e2];have hl:=h.r4.1 q hq2;unfold mvW
  split
  ·refine⟨.inr (.inr ⟨rfl,rfl,show(0:Int)<=(t:Int) by omega,show(t:Int)<_ by rw[yl];omega⟩),λ_=>.inr ⟨?_,nd _⟩⟩;show(y.c (t:Int).toNat).st=1;have:((t:Int)).toNat=t:=by omega
   rw[this,yct];exact h1
  ·rename_i hne;refine⟨by rw[yl];exact hl.1,λhk=>?_⟩;have ha:0<=x.regs[q].a:=by rcases hl.1 with g | g | g <;> omega
   have e3:x.regs[q].a.toNat≠f:=λe=>hne ⟨hk,by omega⟩
   rcases hl.2 hk with⟨_,b⟩ | ⟨a,_⟩
   ·exact b.elim
   ·have e4:x.regs[q].a.toNat≠t:=λe=>by rw[e] at a;omega
    exact .inr ⟨by rw[yco _ e3 e4];exact a,nd _⟩
 ·rw[yl] at hq;by_cases e:q=f
  ·subst e;rw[ycf] at hk;simp [mvC] at hk
  ·by_cases e2:q=t
   ·subst e2;rw[yct] at hk ⊢;have:=((h.r4.2 f hf).2 k hk).2 (ndx f);exact⟨qH _ _ _ (nmd q k) this.1,qH _ _ _ (nmd q k) this.2⟩
   ·rw[yco q e e2] at hk ⊢;have:=((h.r4.2 q hq).2 k hk).2 (ndx q);exact⟨qH _ _ _ (nmd q k) this.1,qH _ _ _ (nmd q k) this.2⟩
 ·rw[yl] at hq
  have cx:∀p,p<x.cells.length->(x.c p).color≠1/\(x.c p).color≠2:=λp hp1=>by
   have c:=h.r5.2.1 p hp1;refine⟨λe=>?_,λe=>?_⟩
   ·have:=c.1 e;rw[hg] at this;simp [cnt] at this
   ·rcases c.2.2 e with m | m
    ·rcases m with m | m <;> omega
    ·have:=m.1;omega
  have cy:(y.c q).color≠1/\(y.c q).color≠2:=by
   rw[yc]
   split
   ·exact⟨by simp [mvC],by simp [mvC]⟩
   ·split
    ·exact cx f hf
    ·exact cx q hq
  exact⟨λe=>(cy.1 e).elim,λ_=>by rw[yg];simp [cnt],λe=>(cy.2 e).elim⟩
 ·unfold R6;rw[yp,yh,ys];exact⟨λ_=>h.r6.1 (.inr hp),λe=>by omega,λe=>by omega,λe=>by omega⟩
 ·exfalso;rcases e with e | e <;> omega
def qJ(x:Hp)(y:Wd):Wd:=if y.k=2/\(x.c y.a.toNat).st=2 then ⟨2,0,(x.c y.a.toNat).to⟩ else y
theorem Snd.cols(h:Snd x)(hp:x.phase≠1/\x.phase≠2/\x.phase≠3)(i:Nat)(hi:i<x.cells.length):(x.c i).color≠1/\(x.c i).color≠2:=by
 have hg:=h.nogray (λe=>by rcases e with e | e <;> omega);have c:=h.r5.2.1 i hi;refine⟨λe=>?_,λe=>?_⟩
 ·have:=c.1 e;rw[hg] at this;simp [cnt] at this
 ·rcases c.2.2 e with m | m
  ·rcases m with m | m <;> omega
  ·have:=m.1;omega
theorem Snd.turned(h:Snd x)(hp:x.phase≠1/\x.phase≠2/\x.phase≠3)(p hd sb rn:Int)(hp1:0<=p/\p<=6/\p≠2/\p≠3/\p≠4)(h1:0<=hd/\hd<=x.cells.length)(h2:0<=sb/\sb<=200)(h3:0<=rn/\rn<=1000000000)(hmv:p<4->∀i,i<x.cells.length->(x.c i).st≠2)
  (hmd:∀i k,i<x.cells.length->k<(x.c i).prs.length->¬cX x i k->¬cX { x with phase:=p,hand:=hd,sub:=sb,rounds:=rn } i k) (h6:R6 { x with phase:=p,hand:=hd,sub:=sb,rounds:=rn }) (h7:p=1->hd=0) (h8:R8 { x with phase:=p,hand:=hd,sub:=sb,rounds:=rn }):Snd { x with phase:=p,hand:=hd,sub:=sb,rounds:=rn }:=by
 have hg:=h.nogray (λe=>by rcases e with e | e <;> omega);have r:=h.r1
 have qH:∀(w:Wd) (m m':Prop),(m->m')->cN x w m->cN { x with phase:=p,hand:=hd,sub:=sb,rounds:=rn } w m':=λw m m' hmm hl=>by
  refine⟨hl.1,λhk=>?_⟩;rcases hl.2 hk with⟨a,b⟩ | ⟨a,_⟩
  ·exact .inl ⟨a,hmm b⟩
  ·exact .inr ⟨a,λd=>hp1.2.2.2.1 d.1⟩
 refine⟨⟨r.room,r.regs,r.cells,r.gray,r.born,h3,r.forced,r.per,r.start,⟨hp1.1,hp1.2.1⟩,h1,h2⟩,⟨λi hi=>?_,h.r2.2⟩,h.r3,⟨λi hi=>qH _ _ _ id (h.r4.1 i hi),λi hi=>⟨λd=>hp1.2.2.2.1 d.1.1,λk hk=>⟨λd=>(hp1.2.2.2.1 d.1).elim,λ_=>?_⟩⟩⟩,⟨λ_=>by show x.gray.length=0;rw[hg];rfl,λi hi=>?_,h.r5.2.2⟩,h6,λhm i hi=>?_,h8⟩
 ·rcases h.r2.1 i hi with a | ⟨a,b⟩ | a
  ·exact .inl a
  ·refine .inr (.inl ⟨a,b.1,?_,b.2.2.1,b.2.2.2.1,b.2.2.2.2.1,λe=>(hp1.2.2.2.2 e).elim⟩);show 4<=p;by_cases l:p<4
   ·exact(hmv l i hi a).elim
   ·omega
  ·exact .inr (.inr a)
 ·have:=((h.r4.2 i hi).2 k hk).2 (λd=>hp.2.2 d.1);exact⟨qH _ _ _ (hmd i k hi hk) this.1,qH _ _ _ (hmd i k hi hk) this.2⟩
 ·have c:=h.cols hp i hi;exact⟨λe=>(c.1 e).elim,λe=>(h.r5.2.1 i hi).2.1 e,λe=>(c.2 e).elim⟩
 ·have hm1:p=1:=by
   have e:p=1\/p=2:=hm;omega
  have c:=h.cols hp i hi;refine⟨λe=>?_,λk hk=>?_⟩
  ·have e3:p=2\/(i:Int)<hd:=e.2.2;have:=h7 hm1;omega
  ·have hk2:k<(if (x.c i).color=2 then (x.c i).prs.length else if p=2/\x.gray.length≠0/\x.gray.getD 0 0=(i:Int) then sb.toNat else 0):=hk;rw[if_neg c.2,if_neg (λe=>hp1.2.2.1 e.1)] at hk2;omega
theorem Snd.begin(h:Snd x)(hp:x.phase=0):Snd (dD x 1 0):=by
 refine h.turned ⟨by omega,by omega,by omega⟩ 1 0 0 x.rounds ⟨by omega,by omega,by omega,by omega,by omega⟩ ⟨by omega,by omega⟩ ⟨by omega,by omega⟩ h.r1.rounds (λ_ i hi=>h.nomoved (by omega) i hi) (λi k _ _ e=>(e ⟨by omega,λh5=>by omega⟩).elim) ⟨λe=>?_,λe=>?_,λe=>?_,λ_=>rfl⟩ (λ_=>rfl) (λi hi e=>?_)
 ·have e':(1:Int)=0\/(1:Int)=4:=e;omega
 ·have e':(1:Int)=2:=e;omega
 ·have e':(1:Int)=5:=e;omega
 ·have e':(1:Int)=6:=e.1;omega
theorem Snd.u4(h:Snd x)(hp:x.phase=4):Snd (unit4 x):=by
 have nm:∀i k,¬cX x i k:=λi k e=>e.1 hp
 unfold unit4;obtain⟨f1,f2,f3⟩:=a0z x
 split
 ·refine h.turned ⟨by omega,by omega,by omega⟩ 5 0 0 x.rounds ⟨by omega,by omega,by omega,by omega,by omega⟩ ⟨by omega,by omega⟩ ⟨by omega,by omega⟩ h.r1.rounds (λe=>by omega) (λi k _ _ _ e=>?_) ⟨λe=>?_,λe=>?_,λ_=>⟨λ_=>rfl,λ_=>?_⟩,λe=>?_⟩ (λe=>by omega) (λi hi e=>?_)
  ·have e':(i:Int)<0\/((i:Int)=0/\(k:Int)<0):=e.2 rfl;omega
  ·have e':(5:Int)=0\/(5:Int)=4:=e;omega
  ·have e':(5:Int)=2:=e;omega
  ·show(0:Int)<=_;omega
  ·have e':(5:Int)=1\/(5:Int)=3\/(5:Int)=6:=e;omega
  ·have e':(5:Int)=6:=e.1;omega
 ·rename_i hlt;rcases a1w x x.cells.length with⟨e,_⟩ | ⟨f,e,hf,hs,_⟩
  ·omega
  ·have e2:(a1s x x.cells.length).toNat=f:=by omega
   rw[e2];rw[e] at hlt;exact h.mv hp (cD x) f (by omega) hf (f3 (by omega)) f2 hs
def zZ(x:Hp)(c:Cl)(k:Nat):Cl:={ c with prs:=c.prs.set k ⟨qJ x (c.p k).key,qJ x (c.p k).val⟩ }
def eK(x:Hp):Hp:=if x.hand=x.cells.length then dD x 6 x.cells.length else
 if x.sub<(x.c x.hand.toNat).prs.length then { x with cells:=x.cells.set x.hand.toNat (zZ x (x.c x.hand.toNat) x.sub.toNat),sub:=x.sub+1 }
 else { x with hand:=x.hand+1,sub:=0 }
theorem Snd.mend  (h : Snd x) (hp : x.phase = 5) (i k : Nat) (hi : x.hand = (i : Int)) (hin : i < x.cells.length) (hk : x.sub = (k : Int)) (hkl : k < (x.c i).prs.length) : Snd { x with cells := x.cells.set i (zZ x (x.c i) k), sub := x.sub + 1 } := by
  have hg := h.nogray (λe => by rcases e with e | e <;> omega)
  have hst : (x.c i).st = 1 := by
    rcases h.r2.1 i hin with ⟨_, b, _⟩ | ⟨_, b⟩ | ⟨a, _⟩
    · have := b.2.2.2.2.2; omega
    · have := b.1.2.2.2.2.2; omega
    · exact a
  obtain ⟨y, hy⟩ : ∃ y : Hp, y = { x with cells := x.cells.set i (zZ x (x.c i) k), sub := x.sub + 1 } := ⟨_, rfl⟩
  have yc : ∀ q, y.c q = if q = i then zZ x (x.c i) k else x.c q := λq => by rw [hy]; exact Hp.c_set x i _ hin q
  have yl : y.cells.length = x.cells.length := by rw [hy]; simp
  have ycs : y.cells = x.cells.set i (zZ x (x.c i) k) := by rw [hy]
  have yp : y.phase = 5 := by rw [hy]; exact hp
  have yh : y.hand = x.hand := by rw [hy]
  have ys : y.sub = x.sub + 1 := by rw [hy]
  have yr : y.regs = x.regs := by rw [hy]
  have yg : y.gray = [] := by rw [hy]; exact hg
  have y1 : y.room = x.room /\ y.used = x.used /\ y.born = x.born /\ y.per = x.per /\ y.start = x.start /\ y.rounds = x.rounds /\ y.forced = x.forced := by rw [hy]; exact ⟨rfl, rfl, rfl, rfl, rfl, rfl, rfl⟩
  rw [<- hy]
  clear hy
  have yci : y.c i = zZ x (x.c i) k := by rw [yc, if_pos rfl]
  have yco : ∀ q, q ≠ i -> y.c q = x.c q := λq e => by rw [yc, if_neg e]
  have parts : ∀ q, (y.c q).st = (x.c q).st /\ (y.c q).kind = (x.c q).kind /\ (y.c q).weak = (x.c q).weak /\ (y.c q).last = (x.c q).last /\ (y.c q).born = (x.c q).born /\ (y.c q).color = (x.c q).color /\ (y.c q).to = (x.c q).to /\ (y.c q).prs.length = (x.c q).prs.length := λq => by
    by_cases e : q = i
    · rw [e, yci]; exact ⟨rfl, rfl, rfl, rfl, rfl, rfl, rfl, by simp [zZ]⟩
    · rw [yco q e]; exact ⟨rfl, rfl, rfl, rfl, rfl, rfl, rfl, rfl⟩
  have nd : ∀ q, ¬ cU y q := λq d => by have := d.1; omega
  have ndx : ∀ q, ¬ cU x q := λq d => by have := d.1; omega
  have qH : ∀ (u : Wd) (m m' : Prop), (m -> m') -> cN x u m -> cN y u m' := λu m m' hmm hl => by
    refine ⟨by rw [yl]; exact hl.1, λhk => ?_⟩
    rw [(parts _).1]
    rcases hl.2 hk with ⟨a, b⟩ | ⟨a, _⟩
    · exact .inl ⟨a, hmm b⟩
    · exact .inr ⟨a, nd _⟩
  have res : ∀ (u : Wd) (m m' : Prop), cN x u m -> cN y (qJ x u) m' := λu m m' hl => by
    unfold qJ
    split
    · rename_i e
      have hlt : u.a.toNat < x.cells.length := by rcases hl.1 with f | f | f <;> omega
      rcases h.r2.1 _ hlt with ⟨a, _⟩ | ⟨_, b⟩ | ⟨a, _⟩
      · have := e.2; omega
      · obtain ⟨_, _, b3, b4, b5, _⟩ := b
        refine ⟨.inr (.inr ⟨rfl, rfl, b3, show (x.c u.a.toNat).to < _ by rw [yl]; omega⟩), λ_ => .inr ⟨?_, nd _⟩⟩
        rw [(parts _).1]; exact b5
      · have := e.2; omega
    · rename_i e
      refine ⟨by rw [yl]; exact hl.1, λhk => ?_⟩
      rw [(parts _).1]
      rcases hl.2 hk with ⟨a, _⟩ | ⟨a, _⟩
      · exact (e ⟨hk, a⟩).elim
      · exact .inr ⟨a, nd _⟩
  have hp200 := h.ok.p200 i hin
  have r := h.r1
  refine ⟨⟨by rw [y1.1]; exact r.room, by rw [yr]; exact r.regs, by rw [yl, y1.1]; exact r.cells, by rw [yg]; simp, by rw [y1.2.2.1]; exact r.born, by rw [y1.2.2.2.2.2.1]; exact r.rounds, by rw [y1.2.2.2.2.2.2]; exact r.forced, by rw [y1.2.2.2.1]; exact r.per, by rw [y1.2.2.2.2.1]; exact r.start, by rw [yp]; omega, by rw [yh, yl]; exact r.hand, by rw [ys]; omega⟩, ⟨λq hq => ?_, λq hq hs j hj hh => ?_⟩, ?_, ⟨λq hq => ?_, λq hq => ⟨λe => nd q e.1, λj hj => ⟨λd => (nd q d).elim, λ_ => ?_⟩⟩⟩, ⟨λ_ => by rw [yg]; rfl, λq hq => ?_, λg hg' => by rw [yg] at hg'; cases hg'⟩, ?_, λe => ?_, λq hq e => by have := e.1; omega⟩
  · rw [yl] at hq
    obtain ⟨e1, e2, e3, e4, e5, e6, e7, e8⟩ := parts q
    unfold cE a2i eD yX
    rw [e1, e2, e3, e4, e5, e6, e7, e8, y1.2.2.1, yp, (parts _).1]
    rcases h.r2.1 q hq with a | ⟨a, b⟩ | a
    · exact .inl a
    · exact .inr (.inl ⟨a, b.1, by omega, b.2.2.1, b.2.2.2.1, b.2.2.2.2.1, λe => by omega⟩)
    · exact .inr (.inr a)
  · rw [yl] at hq
    obtain ⟨e1, _, _, _, e5, _, e7, _⟩ := parts q
    obtain ⟨f1, _, _, _, f5, _, f7, _⟩ := parts j
    rw [e1, e5, e7, f1, f5, f7] at hh
    rw [e1] at hs
    exact h.r2.2 q hq hs j hj hh
  · unfold R3
    rw [y1.2.1, y1.1, ycs]
    have : dN (x.cells.set i (zZ x (x.c i) k)) = dN x.cells := a3g _ _ _ hin (by rw [Hp.c_eq x i hin]; unfold cH zZ; simp)
    rw [this]
    exact h.r3
  · have hq2 : q < x.regs.length := by rw [<- yr]; exact hq
    have e2 : y.regs[q] = x.regs[q] := by simp [yr]
    rw [e2]
    exact qH _ _ _ id (h.r4.1 q hq2)
  · rw [yl] at hq
    rw [(parts q).2.2.2.2.2.2.2] at hj
    have h4 := ((h.r4.2 q hq).2 j hj).2 (ndx q)
    by_cases e : q = i
    · subst e
      by_cases ej : j = k
      · subst ej
        have ep : (y.c q).p j = ⟨qJ x ((x.c q).p j).key, qJ x ((x.c q).p j).val⟩ := by
          rw [yci]
          simp [Cl.p, zZ, hkl]
        rw [ep]
        exact ⟨res _ _ _ h4.1, res _ _ _ h4.2⟩
      · have ep : (y.c q).p j = (x.c q).p j := by
          rw [yci]
          simp only [Cl.p, zZ, List.getD_eq_getElem?_getD]
          rw [List.getElem?_set_ne (λe => ej e.symm)]
        rw [ep]
        have men : ¬ cX x q j -> ¬ cX y q j := λe e' => e ⟨by omega, λ_ => by
          have := e'.2 yp
          rw [yh, ys] at this
          omega⟩
        exact ⟨qH _ _ _ men h4.1, qH _ _ _ men h4.2⟩
    · rw [yco q e]
      have men : ¬ cX x q j -> ¬ cX y q j := λe2 e' => e2 ⟨by omega, λ_ => by
        have := e'.2 yp
        rw [yh, ys] at this
        omega⟩
      exact ⟨qH _ _ _ men h4.1, qH _ _ _ men h4.2⟩
  · rw [yl] at hq
    have c := h.cols ⟨by omega, by omega, by omega⟩ q hq
    unfold eE
    rw [(parts q).2.2.2.2.2.1, yg]
    exact ⟨λe => (c.1 e).elim, λ_ => by simp [cnt], λe => (c.2 e).elim⟩
  · unfold R6
    rw [yp, yh, ys, yl]
    have e : x.hand.toNat = i := by omega
    rw [e, (parts i).1, (parts i).2.2.2.2.2.2.2]
    exact ⟨λe => by omega, λe => by omega, λ_ => ⟨λe => by omega, λ_ => by omega⟩, λe => by omega⟩
  · exfalso; rcases e with e | e <;> omega
theorem Snd.u5(h:Snd x)(hp:x.phase=5):Snd (eK x):=by
 have hh:=h.r1.hand;have hs:=h.r1.sub;have h6:=h.r6.2.2.1 hp;unfold eK
 split
 ·rename_i he;refine h.turned ⟨by omega,by omega,by omega⟩ 6 x.cells.length 0 x.rounds ⟨by omega,by omega,by omega,by omega,by omega⟩ ⟨by omega,by omega⟩ ⟨by omega,by omega⟩ h.r1.rounds (λe=>by omega) (λi k hi _ e=>(e ⟨by omega,λ_=>.inl (by omega)⟩).elim) ⟨λe=>?_,λe=>?_,λe=>?_,λ_=>rfl⟩ (λe=>by omega) (λi hi e=>?_)
  ·have e':(6:Int)=0\/(6:Int)=4:=e;omega
  ·have e':(6:Int)=2:=e;omega
  ·have e':(6:Int)=5:=e;omega
  ·have e':(x.cells.length:Int)<=i:=e.2.1;have hi':i<x.cells.length:=hi;omega
 ·rename_i hne
  split
  ·rename_i hlt;exact h.mend hp x.hand.toNat x.sub.toNat (by omega) (by omega) (by omega) (by omega)
  ·rename_i hlt;obtain⟨i,hi⟩:∃i:Nat,x.hand=(i:Int):=⟨x.hand.toNat,by omega⟩;have hin:i<x.cells.length:=by omega
   have ei:x.hand.toNat=i:=by omega
   rw[ei] at h6 hlt
   have key:∀k,k<(x.c i).prs.length->(k:Int)<x.sub:=λk hk=>by
    have hst:(x.c i).st=1:=by
     rcases h.r2.1 i hin with⟨_,b,_⟩ | ⟨_,b⟩ | ⟨a,_⟩
     ·have:=b.2.2.2.2.2;omega
     ·have:=b.1.2.2.2.2.2;omega
     ·exact a
    omega
   have e0:({ x with hand:=x.hand+1,sub:=0 }:Hp)={ x with phase:=x.phase,hand:=x.hand+1,sub:=0,rounds:=x.rounds }:=rfl;rw[e0,hp];refine h.turned ⟨by omega,by omega,by omega⟩ 5 (x.hand+1) 0 x.rounds ⟨by omega,by omega,by omega,by omega,by omega⟩ ⟨by omega,by omega⟩ ⟨by omega,by omega⟩ h.r1.rounds (λe=>by omega) (λq k hq hk e e'=>e ⟨by omega,λ_=>?_⟩) ⟨λe=>?_,λe=>?_,λ_=>⟨λ_=>rfl,λ_=>?_⟩,λe=>?_⟩ (λe=>by omega) (λq hq e=>?_)
   ·have e2:(q:Int)<x.hand+1\/((q:Int)=x.hand+1/\(k:Int)<0):=e'.2 rfl;by_cases eq:q=i
    ·subst eq;exact .inr ⟨by omega,key k hk⟩
    ·left;omega
   ·have e':(5:Int)=0\/(5:Int)=4:=e;omega
   ·have e':(5:Int)=2:=e;omega
   ·show(0:Int)<=_;omega
   ·have e':(5:Int)=1\/(5:Int)=3\/(5:Int)=6:=e;omega
   ·have e':(5:Int)=6:=e.1;omega
def eU(x:Hp)(i:Nat):Hp:={ x with cells:=if (x.c i).st=2 then x.cells.set i Cl0 else x.cells,hand:=(i:Int) }
def zX(x:Hp)(i:Nat):Hp:=if i+1=x.cells.length/\(x.c i).st=0 then { x with cells:=x.cells.take i } else x
def dZ(x:Hp):Hp:=if x.hand=0 then { x with phase:=0,hand:=0,sub:=0,rounds:=if x.rounds<1000000000 then x.rounds+1 else x.rounds } else zX (eU x (x.hand-1).toNat) (x.hand-1).toNat
theorem Snd.noword(h:Snd x)(hp:x.phase=6):(∀i (hi:i<x.regs.length),qN x x.regs[i])/\∀i k,i<x.cells.length->k<(x.c i).prs.length->qN x ((x.c i).p k).key/\qN x ((x.c i).p k).val:=by
 refine⟨λi hi=>h.good_reg i hi,λi k hi hk=>?_⟩;have r:=((h.r4.2 i hi).2 k hk).2 (λd=>by have:=d.1;omega);have hmen:cX x i k:=⟨by omega,λh5=>by omega⟩
 have go:∀y,cN x y (¬cX x i k)->qN x y:=λy hy hk2=>by
  rcases hy.2 hk2 with⟨_,h2⟩ | ⟨h1,_⟩
  ·exact(h2 hmen).elim
  ·refine⟨?_,h1⟩;rcases hy.1 with f | f | f <;> omega
 exact⟨go _ r.1,go _ r.2⟩
theorem Snd.shut(h:Snd x)(hp:x.phase=6)(i:Nat)(hi:x.hand=(i:Int)+1):Snd (eU x i):=by
 have hh:=h.r1.hand;have hin:i<x.cells.length:=by omega
 have hg:=h.nogray (λe=>by rcases e with e | e <;> omega);obtain⟨g1,g2⟩:=h.noword hp;obtain⟨y,hy⟩:∃y:Hp,y=eU x i:=⟨_,rfl⟩
 have yc:∀q,y.c q=if q=i/\(x.c i).st=2 then Cl0 else x.c q:=λq=>by
  rw[hy];by_cases e:(x.c i).st=2
  ·have e3:eU x i={ x with cells:=x.cells.set i Cl0,hand:=(i:Int) }:=by unfold eU;rw[if_pos e]
   rw[e3];have:=Hp.c_set x i Cl0 hin q;have e4:({ x with cells:=x.cells.set i Cl0,hand:=(i:Int) }:Hp).c q=({ x with cells:=x.cells.set i Cl0 }:Hp).c q:=rfl;rw[e4,this];by_cases eq:q=i
   ·rw[if_pos eq,if_pos ⟨eq,e⟩]
   ·rw[if_neg eq,if_neg (λz=>eq z.1)]
  ·have e3:eU x i={ x with hand:=(i:Int) }:=by unfold eU;rw[if_neg e]
   rw[e3,if_neg (λz=>e z.2)];rfl
 have yl:y.cells.length=x.cells.length:=by rw[hy];unfold eU;split <;> simp
 have yu:dN y.cells=dN x.cells:=by
  rw[hy];unfold eU
  split
  ·rename_i e;refine a3g _ _ _ hin ?_;rw[Hp.c_eq x i hin];unfold cH;rw[if_neg (by simp [Cl0]),if_neg (by omega)]
  ·rfl
 have yp:y.phase=6:=by rw[hy];exact hp
 have yh:y.hand=(i:Int):=by rw[hy];rfl
 have ys:y.sub=x.sub:=by rw[hy];rfl
 have yr:y.regs=x.regs:=by rw[hy];rfl
 have yg:y.gray=[]:=by rw[hy];exact hg
 have y1:y.room=x.room/\y.used=x.used/\y.born=x.born/\y.per=x.per/\y.start=x.start/\y.rounds=x.rounds/\y.forced=x.forced:=by rw[hy];exact⟨rfl,rfl,rfl,rfl,rfl,rfl,rfl⟩
 rw[<-hy];clear hy
 have used:∀q,(x.c q).st=1->y.c q=x.c q:=λq e=>by
  rw[yc,if_neg (λz=>by rw[z.1] at e;omega)]
 have nd:∀q,¬cU y q:=λq d=>by have:=d.1;omega
 have qH:∀u m m',qN x u->cN x u m->cN y u m':=λu m m' hg1 hl=>by
  refine⟨by rw[yl];exact hl.1,λhk=>.inr ⟨?_,nd _⟩⟩;rw[used _ (hg1 hk).2];exact(hg1 hk).2
 have prs:∀q,0<(y.c q).prs.length->y.c q=x.c q:=λq hq=>by
  rw[yc] at hq ⊢
  split
  ·rename_i e;rw[if_pos e] at hq;simp [Cl0] at hq
  ·rfl
 have r:=h.r1;refine⟨⟨by rw[y1.1];exact r.room,by rw[yr];exact r.regs,by rw[yl,y1.1];exact r.cells,by rw[yg];simp,by rw[y1.2.2.1];exact r.born,by rw[y1.2.2.2.2.2.1];exact r.rounds,by rw[y1.2.2.2.2.2.2];exact r.forced,by rw[y1.2.2.2.1];exact r.per,by rw[y1.2.2.2.2.1];exact r.start,by rw[yp];omega,by rw[yh,yl];omega,by rw[ys];exact r.sub⟩,⟨λq hq=>?_,λq hq hs j hj hh=>?_⟩,⟨by rw[y1.2.1,yu];exact h.r3.1,by rw[y1.2.1,y1.1];exact h.r3.2⟩,⟨λq hq=>?_,λq hq=>⟨λe=>nd q e.1,λj hj=>⟨λd=>(nd q d).elim,λ_=>?_⟩⟩⟩,⟨λ_=>by rw[yg];rfl,λq hq=>?_,λg hg'=>by rw[yg] at hg';cases hg'⟩,?_,λe=>?_,λq hq e=>?_⟩
 ·rw[yl] at hq;unfold cE;rw[yc]
  split
  ·exact .inl ⟨rfl,⟨rfl,rfl,rfl,rfl,rfl,rfl⟩,rfl⟩
  ·rcases h.r2.1 q hq with a | ⟨a,b⟩ | ⟨a,b⟩
   ·exact .inl a
   ·exact .inr (.inl ⟨a,b.1,by rw[yp];omega,b.2.2.1,b.2.2.2.1,by rw[used _ b.2.2.2.2.1];exact b.2.2.2.2.1,λe=>by rw[yp] at e;omega⟩)
   ·exact .inr (.inr ⟨a,b.1,b.2.1,b.2.2.1,by rw[y1.2.2.1];exact b.2.2.2.1,b.2.2.2.2⟩)
 ·rw[yl] at hq
  have n1:y.c q=x.c q:=by
   rw[yc] at hs ⊢
   split
   ·rename_i e;rw[if_pos e] at hs;exact(hs rfl).elim
   ·rfl
  have n2:y.c j=x.c j:=by
   have h1:=hh.1;rw[yc j] at h1 ⊢
   split
   ·rename_i e;rw[if_pos e] at h1;exact(hs h1.symm).elim
   ·rfl
  rw[n1,n2] at hh;rw[n1] at hs;exact h.r2.2 q hq hs j hj hh
 ·have hq2:q<x.regs.length:=by rw[<-yr];exact hq
  have e2:y.regs[q]=x.regs[q]:=by simp [yr]
  rw[e2];exact qH _ _ _ (g1 q hq2) (h.r4.1 q hq2)
 ·rw[yl] at hq;have e:=prs q (by omega);rw[e] at hj ⊢;have h4:=((h.r4.2 q hq).2 j hj).2 (λd=>by have:=d.1;omega);exact⟨qH _ _ _ (g2 q j hq hj).1 h4.1,qH _ _ _ (g2 q j hq hj).2 h4.2⟩
 ·rw[yl] at hq;have c:=h.cols ⟨by omega,by omega,by omega⟩ q hq
  have cy:(y.c q).color≠1/\(y.c q).color≠2:=by
   rw[yc];split
   ·exact⟨by simp [Cl0],by simp [Cl0]⟩
   ·exact c
  exact⟨λe=>(cy.1 e).elim,λ_=>by rw[yg];simp [cnt],λe=>(cy.2 e).elim⟩
 ·unfold R6;rw[yp,ys];exact⟨λe=>by omega,λe=>by omega,λe=>by omega,λ_=>h.r6.2.2.2 (by omega)⟩
 ·exfalso;rcases e with e | e <;> omega
 ·rw[yl] at hq;have e2:=e.2.2;have e1:=e.2.1;rw[yh] at e1;rw[yc] at e2
  split at e2
  ·simp [Cl0] at e2
  ·rename_i hn;by_cases eq:q=i
   ·exact hn ⟨eq,by rw[<-eq];exact e2⟩
   ·exact h.r8 q hq ⟨hp,by omega,e2⟩
theorem Snd.drop(h:Snd x)(hp:x.phase=6)(i:Nat)(hi:x.hand=(i:Int)):Snd (zX x i):=by
 unfold zX
 split
 rotate_left
 ·exact h
 rename_i hd;obtain⟨hlen,hst⟩:=hd;have hg:=h.nogray (λe=>by rcases e with e | e <;> omega);obtain⟨g1,g2⟩:=h.noword hp;obtain⟨y,hy⟩:∃y:Hp,y={ x with cells:=x.cells.take i }:=⟨_,rfl⟩;have yl:y.cells.length=i:=by rw[hy];simp;omega
 have yc:∀q,q<i->y.c q=x.c q:=λq hq=>by
  rw[hy];simp only [Hp.c,List.getD_eq_getElem?_getD];rw[List.getElem?_take_of_lt hq]
 have yu:dN y.cells=dN x.cells:=by
  have e:=a4w x.cells i (by omega);rw[show i+1=x.cells.length from hlen,List.take_length,Hp.c_eq x i (by omega)] at e;have:cH (x.c i)=0:=by unfold cH;rw[if_neg (by omega)]
  rw[hy];show dN (x.cells.take i)=_;omega
 have yp:y.phase=6:=by rw[hy];exact hp
 have yh:y.hand=(i:Int):=by rw[hy];exact hi
 have ys:y.sub=x.sub:=by rw[hy]
 have yr:y.regs=x.regs:=by rw[hy]
 have yg:y.gray=[]:=by rw[hy];exact hg
 have y1:y.room=x.room/\y.used=x.used/\y.born=x.born/\y.per=x.per/\y.start=x.start/\y.rounds=x.rounds/\y.forced=x.forced:=by rw[hy];exact⟨rfl,rfl,rfl,rfl,rfl,rfl,rfl⟩
 rw[<-hy];clear hy;have nd:∀q,¬cU y q:=λq d=>by have:=d.1;omega
 have qH:∀u m m',qN x u->cN x u m->cN y u m':=λu m m' hg1 hl=>by
  have key:u.k=2->u.a.toNat<i:=λhk=>by
   have:=hg1 hk;have:u.a.toNat≠i:=λe=>by rw[e] at this;omega
   omega
  refine⟨?_,λhk=>.inr ⟨?_,nd _⟩⟩
  ·rw[yl];rcases hl.1 with f | f | f
   ·exact .inl f
   ·exact .inr (.inl f)
   ·refine .inr (.inr ⟨f.1,f.2.1,f.2.2.1,?_⟩);have:=key f.1;omega
  ·rw[yc _ (key hk)];exact(hg1 hk).2
 have r:=h.r1;refine⟨⟨by rw[y1.1];exact r.room,by rw[yr];exact r.regs,by rw[yl,y1.1];have:=r.cells;omega,by rw[yg];simp,by rw[y1.2.2.1];exact r.born,by rw[y1.2.2.2.2.2.1];exact r.rounds,by rw[y1.2.2.2.2.2.2];exact r.forced,by rw[y1.2.2.2.1];exact r.per,by rw[y1.2.2.2.2.1];exact r.start,by rw[yp];omega,by rw[yh,yl];omega,by rw[ys];exact r.sub⟩,⟨λq hq=>?_,λq hq hs j hj hh=>?_⟩,⟨by rw[y1.2.1,yu];exact h.r3.1,by rw[y1.2.1,y1.1];exact h.r3.2⟩,⟨λq hq=>?_,λq hq=>⟨λe=>nd q e.1,λj hj=>⟨λd=>(nd q d).elim,λ_=>?_⟩⟩⟩,⟨λ_=>by rw[yg];rfl,λq hq=>?_,λg hg'=>by rw[yg] at hg';cases hg'⟩,?_,λe=>?_,λq hq e=>?_⟩
 ·rw[yl] at hq;unfold cE;rw[yc q hq];rcases h.r2.1 q (by omega) with a | ⟨a,b⟩ | ⟨a,b⟩
  ·exact .inl a
  ·have hto:(x.c q).to.toNat<i:=by have:=b.2.2.1;have:=b.2.2.2.1;omega
   exact .inr (.inl ⟨a,b.1,by rw[yp];omega,b.2.2.1,b.2.2.2.1,by rw[yc _ hto];exact b.2.2.2.2.1,λe=>by rw[yp] at e;omega⟩)
  ·exact .inr (.inr ⟨a,b.1,b.2.1,b.2.2.1,by rw[y1.2.2.1];exact b.2.2.2.1,b.2.2.2.2⟩)
 ·rw[yl] at hq;rw[yc q hq,yc j (by omega)] at hh;rw[yc q hq] at hs;exact h.r2.2 q (by omega) hs j hj hh
 ·have hq2:q<x.regs.length:=by rw[<-yr];exact hq
  have e2:y.regs[q]=x.regs[q]:=by simp [yr]
  rw[e2];exact qH _ _ _ (g1 q hq2) (h.r4.1 q hq2)
 ·rw[yl] at hq;rw[yc q hq] at hj ⊢;have h4:=((h.r4.2 q (by omega)).2 j hj).2 (λd=>by have:=d.1;omega);exact⟨qH _ _ _ (g2 q j (by omega) hj).1 h4.1,qH _ _ _ (g2 q j (by omega) hj).2 h4.2⟩
 ·rw[yl] at hq;have c:=h.cols ⟨by omega,by omega,by omega⟩ q (by omega);unfold eE;rw[yc q hq,yg];exact⟨λe=>(c.1 e).elim,λ_=>by simp [cnt],λe=>(c.2 e).elim⟩
 ·unfold R6;rw[yp,ys];exact⟨λe=>by omega,λe=>by omega,λe=>by omega,λ_=>h.r6.2.2.2 (by omega)⟩
 ·exfalso;rcases e with e | e <;> omega
 ·rw[yl] at hq;have:=e.2.1;rw[yh] at this;omega
theorem Snd.u6(h:Snd x)(hp:x.phase=6):Snd (dZ x):=by
 have hh:=h.r1.hand;unfold dZ
 split
 ·rename_i he;refine h.turned ⟨by omega,by omega,by omega⟩ 0 0 0 _ ⟨by omega,by omega,by omega,by omega,by omega⟩ ⟨by omega,by omega⟩ ⟨by omega,by omega⟩ (by have:=h.r1.rounds;split <;> omega) (λ_ i hi e=>h.r8 i hi ⟨hp,by omega,e⟩) (λi k _ _ e=>(e ⟨by omega,λh5=>by omega⟩).elim) ⟨λ_=>⟨rfl,rfl⟩,λe=>?_,λe=>?_,λe=>?_⟩ (λe=>by omega) (λi hi e=>?_)
  ·have e':(0:Int)=2:=e;omega
  ·have e':(0:Int)=5:=e;omega
  ·have e':(0:Int)=1\/(0:Int)=3\/(0:Int)=6:=e;omega
  ·have e':(0:Int)=6:=e.1;omega
 ·rename_i hne;have e:x.hand=(((x.hand-1).toNat:Nat):Int)+1:=by omega
  have s:=h.shut hp _ e;exact s.drop hp _ rfl
def dK(x:Hp):Hp:=if x.phase=1 then qC x else if x.phase=2 then eC x else if x.phase=3 then dE x else if x.phase=4 then unit4 x else if x.phase=5 then eK x else if x.phase=6 then dZ x else x
theorem Snd.unit(h:Snd x):Snd (dK x):=by
 unfold dK
 split
 ·rename_i e;exact h.u1 e
 split
 ·rename_i e;exact h.u2 e
 split
 ·rename_i e;exact h.u3 e
 split
 ·rename_i e;exact h.u4 e
 split
 ·rename_i e;exact h.u5 e
 split
 ·rename_i e;exact h.u6 e
 ·exact h
def sm(F:Cl->Nat)(cs:List Cl):Nat:=(cs.map F).sum
theorem b1q(F:Cl->Nat)(cs:List Cl)(i:Nat)(c:Cl)(hi:i<cs.length):sm F (cs.set i c)+F cs[i]=sm F cs+F c:=by
 induction cs generalizing i with
 | nil=>simp at hi
 | cons a cs ih=>
  cases i with
  | zero=>simp [sm];omega
  | succ i=>
   have:=ih i (by simpa using hi);simp [sm] at this ⊢;omega
theorem c0x(F:Cl->Nat)(b:Nat):∀(cs:List Cl),(∀c,c∈cs->F c<=b)->sm F cs<=b*cs.length
 | [],_=>by simp [sm]
 | c::cs,h=>by
  have h1:=c0x F b cs (λd hd=>h d (by simp [hd]));have h2:=h c (by simp);simp only [sm,List.map_cons,List.sum_cons,List.length_cons,Nat.mul_add] at h1 ⊢;omega
theorem sm_drop(F:Cl->Nat)(cs:List Cl)(i:Nat)(hi:i<cs.length):sm F (cs.drop i)=F cs[i]+sm F (cs.drop (i+1)):=by
 rw[List.drop_eq_getElem_cons hi];simp only [sm,List.map_cons,List.sum_cons]
theorem b6o(F:Cl->Nat)(cs:List Cl)(i k:Nat)(c:Cl)(hi:i<cs.length)(h:F c=F cs[i]):sm F ((cs.set i c).drop k)=sm F (cs.drop k):=by
 have e:(cs.set i c).map F=cs.map F:=by
  refine List.ext_getElem (by simp) (λj h1 h2=>?_);simp only [List.getElem_map,List.getElem_set]
  split
  ·rename_i q;subst q;exact h
  ·rfl
 simp only [sm,List.map_drop,e]
def D2(c:Cl):Nat:=if c.st=1/\c.color≠2 then c.prs.length+2+(if c.color=0 then 1 else 0) else 0
def D4(c:Cl):Nat:=if c.st=0 then 1 else 0
def D5(c:Cl):Nat:=c.prs.length+1
def a5w(x:Hp):Nat:=
 if x.phase=2 then sm D2 x.cells-x.sub.toNat else if x.phase=4 then sm D4 x.cells else if x.phase=5 then sm D5 (x.cells.drop x.hand.toNat)-x.sub.toNat else if x.phase=6 then x.hand.toNat else ((x.cells.length:Int)-x.hand).toNat
def mu(x:Hp):Nat:=if x.phase=0 then 0 else (6-x.phase).toNat*2000000+a5w x+1
theorem Snd.pbound(h:Snd x):a5w x<2000000:=by
 have n8:=h.ok.n8
 have p2:∀c,c∈x.cells->c.prs.length<=200:=λc hc=>by
  obtain⟨i,hi,e⟩:=List.getElem_of_mem hc;have:=h.ok.p200 i hi;rw[<-e,Hp.c_eq x i hi];exact this
 have hh:=h.r1.hand;unfold a5w
 split
 ·have:=c0x D2 203 x.cells (λc hc=>by have:=p2 c hc;unfold D2;split <;> (try split) <;> omega);omega
 split
 ·have:=c0x D4 1 x.cells (λc hc=>by unfold D4;split <;> omega);omega
 split
 ·have:=c0x D5 201 (x.cells.drop x.hand.toNat) (λc hc=>by have:=p2 c (List.mem_of_mem_drop hc);unfold D5;omega);simp only [List.length_drop] at this;omega
 split <;> omega
theorem Snd.mu_le(h:Snd x):mu x<=14000000:=by
 have hp:=h.pbound;have:=h.r1.phase;unfold mu;split <;> omega
theorem a3d(hp:y.phase=x.phase)(h0:x.phase≠0)(hl:a5w y<a5w x):mu y<mu x:=by
 unfold mu;rw[hp,if_neg h0,if_neg h0];omega
theorem a8m(s:Snd y)(hp:y.phase=x.phase+1)(h1:1<=x.phase/\x.phase<=5):mu y<mu x:=by
 have:=s.pbound;unfold mu;rw[if_neg (by omega),if_neg (by omega),hp];omega
theorem c2b(x:Hp)(i:Nat)(hi:i<x.cells.length):sm D2 (uV x i).cells+(uV x i).gray.length=sm D2 x.cells+x.gray.length:=by
 unfold uV;by_cases hb:qU x i=true
 ·rw[if_pos hb];have hp:=(a5a hb).2;have:=b1q D2 x.cells i (tN (x.c i)) hi;have e1:D2 (tN (x.c i))=(x.c i).prs.length+2:=by simp [D2,tN,hp.1]
  have e2:D2 (x.c i)=(x.c i).prs.length+3:=by simp [D2,hp.1,hp.2]
  rw[Hp.c_eq x i hi,e1,e2] at this;simp only [List.length_append,List.length_singleton];omega
 ·rw[if_neg hb]
theorem a7s(x:Hp)(y:Wd)(hy:qN x y):sm D2 (uY x y).cells+(uY x y).gray.length=sm D2 x.cells+x.gray.length:=by
 unfold uY
 split
 ·rename_i e;exact c2b x _ (hy (by simpa using e)).1
 ·rfl
theorem b6p:∀(ys:List Wd) (z:Hp),(∀y,y∈ys->qN z y)->sm D2 (ys.foldl uY z).cells+(ys.foldl uY z).gray.length=sm D2 z.cells+z.gray.length
 | [],_,_=>rfl
 | y::ys,z,h=>by
  have h1:=h y (by simp);rw[List.foldl_cons,b6p ys (uY z y) (λu hu=>(h u (by simp [hu])).keep (a0b z y).2.1 (a4k z y h1)),a7s z y h1]
theorem b1r(x:Hp)(y:Wd):x.gray.length<=(uY x y).gray.length:=by
 obtain⟨L,e⟩:=b0n x y;rw[e];simp
theorem Snd.less{x:Hp}(h:Snd x)(h0:x.phase≠0):mu (dK x)<mu x:=by
 have hr:=h.r1.phase;have hh:=h.r1.hand;have hs:=h.r1.sub;by_cases p1:x.phase=1
 ·have s:=h.u1 p1;rw[show dK x=qC x by unfold dK;rw[if_pos p1]];unfold qC at s ⊢
  split
  ·rename_i e;rw[if_pos e] at s;exact a8m s (by show(2:Int)=x.phase+1;omega) ⟨by omega,by omega⟩
  ·rename_i e;have hin:x.hand.toNat<x.cells.length:=by omega
   have q:=dH x x.hand.toNat;refine a3d ?_ h0 ?_
   ·show(if tJ (x.c x.hand.toNat)=true then uV x x.hand.toNat else x).phase=x.phase
    split
    ·exact q.2.2.2.2.2.1
    ·rfl
   ·have e1:∀z:Hp,z.phase=1->a5w z=((z.cells.length:Int)-z.hand).toNat:=λz hz=>by
     unfold a5w;rw[if_neg (by omega),if_neg (by omega),if_neg (by omega),if_neg (by omega)]
    by_cases hk:tJ (x.c x.hand.toNat)=true
    ·rw[if_pos hk,e1 x p1,e1 _ (by show(uV x x.hand.toNat).phase=1;rw[q.2.2.2.2.2.1];exact p1)];show(((uV x x.hand.toNat).cells.length:Int)-(x.hand+1)).toNat<_;rw[q.2.2.2.2.1];omega
    ·rw[if_neg hk,e1 x p1];refine Nat.lt_of_le_of_lt (Nat.le_of_eq (e1 _ ?_)) ?_
     ·exact p1
     show((x.cells.length:Int)-(x.hand+1)).toNat<_;omega
 by_cases p2:x.phase=2
 ·have s:=h.u2 p2;have h6:=h.r6.2.1 p2
  have e2:∀z:Hp,z.phase=2->a5w z=sm D2 z.cells-z.sub.toNat:=λz hz=>by
   unfold a5w;rw[if_pos hz]
  rw[show dK x=eC x by unfold dK;rw[if_neg p1,if_pos p2]];cases hg:x.gray with
  | cons g G=>
   have hl:=h6.2.2 (by rw[hg];simp);have eg:x.g0=g.toNat:=by simp [Hp.g0,hg]
   rw[eg] at hl
   have hgin:∃i:Nat,g=(i:Int)/\i<x.cells.length/\(x.c i).st=1/\(x.c i).color=1:=by
    have hgm:g∈x.gray:=by rw[hg];exact List.mem_cons_self ..
    have hu:=a9m h.r2 h.r5 g hgm;have hgr:=h.r5.2.2 g hgm;refine⟨g.toNat,by omega,by omega,hu.2,hu.1⟩
   obtain⟨i,rfl,hi,hst,hco⟩:=hgin;have et:((i:Int)).toNat=i:=by omega
   rw[et] at hl;have d2:D2 (x.c i)=(x.c i).prs.length+2:=by simp [D2,hst,hco]
   have big:D2 (x.c i)<=sm D2 x.cells:=by
    have:=b1q D2 x.cells i Cl0 hi;have z0:D2 Cl0=0:=by simp [D2,Cl0]
    rw[Hp.c_eq x i hi,z0] at this;omega
   unfold eC;rw[hg];simp only [et];by_cases hlt:x.sub<(x.c i).prs.length
   ·rw[if_pos hlt];have gp:=h.good_pair (.inr p2) i x.sub.toNat hi (by omega);have w1:=a0b x ((x.c i).p x.sub.toNat).key;have gk:=gp.2.keep w1.2.1 (a4k x _ gp.1);have w2:=a0b (uY x ((x.c i).p x.sub.toNat).key) ((x.c i).p x.sub.toNat).val;have s1:=a7s x _ gp.1;have s2:=a7s _ _ gk;have g1:=b1r x ((x.c i).p x.sub.toNat).key;have g2:=b1r (uY x ((x.c i).p x.sub.toNat).key) ((x.c i).p x.sub.toNat).val;have ph:(uY (uY x ((x.c i).p x.sub.toNat).key) ((x.c i).p x.sub.toNat).val).phase=x.phase:=by rw[w2.2.2.1,w1.2.2.1]
    refine a3d ph h0 ?_;rw[e2 x p2,e2 _ (by show(uY (uY x ((x.c i).p x.sub.toNat).key) ((x.c i).p x.sub.toNat).val).phase=2;rw[ph];exact p2)];show sm D2 (uY (uY x ((x.c i).p x.sub.toNat).key) ((x.c i).p x.sub.toNat).val).cells-(x.sub+1).toNat<_;omega
   ·rw[if_neg hlt];refine a3d rfl h0 ?_;rw[e2 x p2];refine Nat.lt_of_le_of_lt (Nat.le_of_eq (e2 _ ?_)) ?_
    ·exact p2
    show sm D2 (x.cells.set i (a1d (x.c i)))-(0:Int).toNat<_;have:=b1q D2 x.cells i (a1d (x.c i)) hi;have z0:D2 (a1d (x.c i))=0:=by simp [D2,a1d]
    rw[Hp.c_eq x i hi,z0] at this;omega
  | nil=>
   have lk:=(h.look p2).1;have h60:=h6.2.1 (by rw[hg];rfl);unfold eC at s ⊢;rw[hg] at s ⊢;simp only at s ⊢;by_cases hq:(qK x).gray=[]
   ·rw[if_pos hq] at s ⊢;exact a8m s (by show(3:Int)=x.phase+1;omega) ⟨by omega,by omega⟩
   ·rw[if_neg hq];refine a3d lk.phase h0 ?_;rw[e2 x p2,e2 _ (by rw[lk.phase];exact p2),lk.sub,h60]
    have fs:=b6p x.regs x (λy hy=>by
     obtain⟨i,hi,e⟩:=List.getElem_of_mem hy;rw[<-e];exact h.good_reg i hi)
    have fs2:sm D2 (qK x).cells+(qK x).gray.length=sm D2 x.cells+x.gray.length:=fs;have:(qK x).gray.length≠0:=λe=>hq (List.eq_nil_of_length_eq_zero e)
    rw[hg] at fs2;simp only [List.length_nil] at fs2;simp only [Int.toNat_zero];omega
 by_cases p3:x.phase=3
 ·have s:=h.u3 p3
  have e3:∀z:Hp,z.phase=3->a5w z=((z.cells.length:Int)-z.hand).toNat:=λz hz=>by
   unfold a5w;rw[if_neg (by omega),if_neg (by omega),if_neg (by omega),if_neg (by omega)]
  rw[show dK x=dE x by unfold dK;rw[if_neg p1,if_neg p2,if_pos p3]];unfold dE at s ⊢
  split
  ·rename_i e;rw[if_pos e] at s;exact a8m s (by show(4:Int)=x.phase+1;omega) ⟨by omega,by omega⟩
  ·split
   all_goals
    refine a3d (by rfl) h0 ?_;rw[e3 x p3];refine Nat.lt_of_le_of_lt (Nat.le_of_eq (e3 _ ?_)) ?_
    ·exact p3
    simp only [List.length_set];omega
 by_cases p4:x.phase=4
 ·have s:=h.u4 p4
  have e4:∀z:Hp,z.phase=4->a5w z=sm D4 z.cells:=λz hz=>by
   unfold a5w;rw[if_neg (by omega),if_pos hz]
  rw[show dK x=unit4 x by unfold dK;rw[if_neg p1,if_neg p2,if_neg p3,if_pos p4]];unfold unit4 at s ⊢
  split
  ·rename_i e;rw[if_pos e] at s;exact a8m s (by show(5:Int)=x.phase+1;omega) ⟨by omega,by omega⟩
  ·rename_i e;have ff:=a0z x;rcases a1w x x.cells.length with⟨q,_⟩ | ⟨f,q,hf,hst,_⟩
   ·omega
   ·rw[q] at e ⊢;have ef:((f:Int)).toNat=f:=by omega
    rw[ef];obtain⟨t,ht⟩:∃t,t=cD x:=⟨_,rfl⟩;rw[<-ht] at ff e ⊢;have htf:t<f:=by omega
    have ht0:=ff.2.2 (by omega);refine a3d rfl h0 ?_;rw[e4 x p4];refine Nat.lt_of_le_of_lt (Nat.le_of_eq (e4 _ ?_)) ?_
    ·exact p4
    show sm D4 ((x.cells.set t (x.c f)).set f (mvC t))<_;have a1:=b1q D4 x.cells t (x.c f) (by omega);have a2:=b1q D4 (x.cells.set t (x.c f)) f (mvC t) (by rw[List.length_set];exact hf)
    have a3:(x.cells.set t (x.c f))[f]'(by rw[List.length_set];exact hf)=x.c f:=by
     rw[List.getElem_set,if_neg (by omega),Hp.c_eq]
    rw[a3] at a2;rw[Hp.c_eq x t (by omega)] at a1;have b1:D4 (x.c f)=0:=by simp [D4,hst]
    have b2:D4 (mvC t)=0:=by simp [D4,mvC]
    have b3:D4 (x.c t)=1:=by simp [D4,ht0]
    omega
 by_cases p5:x.phase=5
 ·have s:=h.u5 p5;have h6:=h.r6.2.2.1 p5
  have e5:∀z:Hp,z.phase=5->a5w z=sm D5 (z.cells.drop z.hand.toNat)-z.sub.toNat:=λz hz=>by
   unfold a5w;rw[if_neg (by omega),if_neg (by omega),if_pos hz]
  rw[show dK x=eK x by unfold dK;rw[if_neg p1,if_neg p2,if_neg p3,if_neg p4,if_pos p5]];unfold eK at s ⊢
  split
  ·rename_i e;rw[if_pos e] at s;exact a8m s (by show(6:Int)=x.phase+1;omega) ⟨by omega,by omega⟩
  ·rename_i e;obtain⟨i,hi⟩:∃i:Nat,x.hand=(i:Int):=⟨x.hand.toNat,by omega⟩;have hin:i<x.cells.length:=by omega
   have ei:x.hand.toNat=i:=by omega
   rw[ei] at h6 ⊢
   have hsub:x.sub<=(x.c i).prs.length:=by
    by_cases hst:(x.c i).st=1
    ·exact h6.2 ⟨e,hst⟩
    ·have:=h6.1 (.inr hst);omega
   have dr:=sm_drop D5 x.cells i hin;have d5:D5 x.cells[i]=(x.c i).prs.length+1:=by rw[Hp.c_eq x i hin];rfl
   split
   ·refine a3d rfl h0 ?_;rw[e5 x p5];refine Nat.lt_of_le_of_lt (Nat.le_of_eq (e5 _ ?_)) ?_
    ·exact p5
    show sm D5 ((x.cells.set i (zZ x (x.c i) x.sub.toNat)).drop x.hand.toNat)-(x.sub+1).toNat<_;rw[b6o D5 x.cells i _ _ hin (by rw[Hp.c_eq x i hin];simp [D5,zZ]),ei];omega
   ·refine a3d rfl h0 ?_;rw[e5 x p5];refine Nat.lt_of_le_of_lt (Nat.le_of_eq (e5 _ ?_)) ?_
    ·exact p5
    show sm D5 (x.cells.drop (x.hand+1).toNat)-(0:Int).toNat<_;rw[show(x.hand+1).toNat=i+1 by omega,ei];omega
 ·have p6:x.phase=6:=by omega
  have e6:∀z:Hp,z.phase=6->a5w z=z.hand.toNat:=λz hz=>by
   unfold a5w;rw[if_neg (by omega),if_neg (by omega),if_neg (by omega),if_pos hz]
  rw[show dK x=dZ x by unfold dK;rw[if_neg p1,if_neg p2,if_neg p3,if_neg p4,if_neg p5,if_pos p6]];unfold dZ
  split
  ·show(if (0:Int)=0 then 0 else _)<mu x;rw[if_pos rfl];unfold mu;rw[if_neg h0];omega
  ·rename_i e;obtain⟨i,hi⟩:∃i:Nat,i=(x.hand-1).toNat:=⟨_,rfl⟩;rw[<-hi]
   have k:(zX (eU x i) i).phase=x.phase/\(zX (eU x i) i).hand=(i:Int):=by
    unfold zX;split <;> exact⟨rfl,rfl⟩
   refine a3d k.1 h0 ?_;rw[e6 x p6,e6 _ (by rw[k.1];exact p6),k.2];omega
def itU:Nat->Hp->Hp
 | 0,x=>x
 | k+1,x=>dK (itU k x)
theorem Snd.itU{x:Hp}(h:Snd x):∀k,Snd (itU k x)
 | 0=>h
 | k+1=>(Snd.itU h k).unit
def yL(x:Hp)(k:Nat):Prop:=∀j,j<k->(itU j x).phase≠0
def a8n(x:Hp)(k:Nat):Prop:=(itU k x).phase=0/\yL x k
theorem yL.zero(x:Hp):yL x 0:=λj h=>by omega
theorem yL.succ(h:yL x k)(h0:(itU k x).phase≠0):yL x (k+1):=λj hj=>by
 by_cases e:j=k
 ·rw[e];exact h0
 ·exact h j (by omega)
theorem a8n.uniq(a:a8n x j)(b:a8n x k):j=k:=by
 rcases Nat.lt_trichotomy j k with h | h | h
 ·exact(b.2 j h a.1).elim
 ·exact h
 ·exact(a.2 k h b.1).elim
theorem yL.mu{x:Hp}(s:Snd x):∀k,yL x k->mu (itU k x)+k<=mu x
 | 0,_=>by simp [Go.Proofs.YtddkhnclmeikfaaGreat.itU]
 | k+1,h=>by
  have h1:=yL.mu s k (λj hj=>h j (by omega));have h2:=(s.itU k).less (h k (by omega));simp only [Go.Proofs.YtddkhnclmeikfaaGreat.itU];omega
theorem yL.le(s:Snd x)(h:yL x k):k<=14000000:=by
 have:=yL.mu s k h;have:=s.mu_le;omega
def a2n(x:Hp)(n k:Nat):Prop:=yL x k/\k<=n/\(k=n\/(itU k x).phase=0)
theorem a2n.uniq{n:Nat}(a:a2n x n j)(b:a2n x n k):j=k:=by
 rcases Nat.lt_trichotomy j k with h | h | h
 ·rcases a.2.2 with e | e
  ·have:=b.2.1;omega
  ·exact(b.1 j h e).elim
 ·exact h
 ·rcases b.2.2 with e | e
  ·have:=a.2.1;omega
  ·exact(a.1 k h e).elim
def regTo(x:Hp)(r:Nat)(y:Wd):Hp:={ x with regs:=x.regs.set r y }
theorem Snd.regTo(h:Snd x)(r:Nat)(y:Wd)(hy:cN x y False):Snd (regTo x r y) where
 r1:=⟨h.r1.room,by simp [Proofs.YtddkhnclmeikfaaGreat.regTo];exact h.r1.regs,h.r1.cells,h.r1.gray,h.r1.born,h.r1.rounds,h.r1.forced,h.r1.per,h.r1.start,h.r1.phase,h.r1.hand,h.r1.sub⟩
 r2:=h.r2
 r3:=h.r3
 r4:=⟨λi hi=>by
  have hi2:i<x.regs.length:=by simpa [Proofs.YtddkhnclmeikfaaGreat.regTo] using hi
  by_cases e:r=i
  ·subst e;have:(Proofs.YtddkhnclmeikfaaGreat.regTo x r y).regs[r]=y:=by simp [Proofs.YtddkhnclmeikfaaGreat.regTo]
   rw[this];exact hy
  ·have:(Proofs.YtddkhnclmeikfaaGreat.regTo x r y).regs[i]=x.regs[i]:=by simp [Proofs.YtddkhnclmeikfaaGreat.regTo,List.getElem_set_ne e]
   rw[this];exact h.r4.1 i hi2,h.r4.2⟩
 r5:=h.r5
 r6:=h.r6
 r7:=h.r7
 r8:=h.r8
def paceTo(x:Hp)(p s:Int):Hp:={ x with per:=p,start:=s }
theorem Snd.paceTo(h:Snd x)(p s:Int)(hp:0<=p/\p<=64)(hs:0<=s/\s<=4000):Snd (paceTo x p s) where
 r1:=⟨h.r1.room,h.r1.regs,h.r1.cells,h.r1.gray,h.r1.born,h.r1.rounds,h.r1.forced,hp,hs,h.r1.phase,h.r1.hand,h.r1.sub⟩
 r2:=h.r2
 r3:=h.r3
 r4:=h.r4
 r5:=h.r5
 r6:=h.r6
 r7:=h.r7
 r8:=h.r8
def forceTo(x:Hp):Hp:={ x with forced:=if x.forced<1000000000 then x.forced+1 else x.forced }
theorem Snd.forceTo(h:Snd x):Snd (forceTo x) where
 r1:=⟨h.r1.room,h.r1.regs,h.r1.cells,h.r1.gray,h.r1.born,h.r1.rounds,by have:=h.r1.forced;show 0<=(if x.forced<1000000000 then x.forced+1 else x.forced)/\(if x.forced<1000000000 then x.forced+1 else x.forced)<=1000000000;split <;> omega,h.r1.per,h.r1.start,h.r1.phase,h.r1.hand,h.r1.sub⟩
 r2:=h.r2
 r3:=h.r3
 r4:=h.r4
 r5:=h.r5
 r6:=h.r6
 r7:=h.r7
 r8:=h.r8
def b4x(x:Hp)(y:Hp):Prop:=∃k,a8n x k/\y=itU k x
theorem b4x.snd(s:Snd x)(h:b4x x y):Snd y/\y.phase=0:=by
 obtain⟨k,a,b⟩:=h;rw[b];exact⟨s.itU k,a.1⟩
def stepH(x:Hp)(n:Nat):Hp:=if x.phase=0/\n≠0 then dD x 1 0 else x
theorem Snd.stepH(s:Snd x)(n:Nat):Snd (stepH x n):=by
 unfold Go.Proofs.YtddkhnclmeikfaaGreat.stepH
 split
 ·rename_i h;exact s.begin h.1
 ·exact s
def a2g(x:Hp)(u:Nat):Bool:=decide (x.used+u<=x.room)
def RdIs(x z:Hp):Prop:=∃y,b4x x y/\b4x (dD y 1 0) z
theorem RdIs.snd(s:Snd x)(h:RdIs x z):Snd z:=by
 obtain⟨y,h1,h2⟩:=h;exact(h2.snd ((h1.snd s).1.begin (h1.snd s).2)).1
def a4h(x:Hp)(u:Nat)(y:Hp):Prop:=(a2g x u=true/\y=x)\/(a2g x u=false/\RdIs (forceTo x) y)
theorem a4h.snd(s:Snd x)(h:a4h x u y):Snd y:=by
 rcases h with⟨_,h⟩ | ⟨_,h⟩
 ·rw[h];exact s
 ·exact h.snd s.forceTo
def a8o(x:Hp)(u:Nat):Bool:=x.per == 0 || (u == 0 || (x.phase == 0 && decide (x.used<=x.start)))
def a5b(x:Hp)(u:Nat)(y:Hp):Prop:=(a8o x u=true/\y=x)\/(a8o x u=false/\∃k,a2n (stepH x (x.per.toNat*u)) (x.per.toNat*u) k/\y=itU k (stepH x (x.per.toNat*u)))
theorem a5b.snd(s:Snd x)(h:a5b x u y):Snd y:=by
 rcases h with⟨_,h⟩ | ⟨_,k,_,h⟩
 ·rw[h];exact s
 ·rw[h];exact(s.stepH _).itU k
def GOk[Inhabited uN](B:Nat)(w:World)(g:Nat)(x:Hp):Prop:=∃ar kr ac kc vg br bc pb pa pk role,GAt B w g x ar kr ac kc vg br bc pb pa pk role
theorem GOk.ext[Inhabited uN](h:GOk B w g x)(e:Ext w w'):GOk B w' g x:=by
 obtain⟨ar,kr,ac,kc,vg,br,bc,pb,pa,pk,role,h⟩:=h;exact⟨ar,kr,ac,kc,vg,br,bc,pb,pa,pk,role,h.ext e⟩
theorem GAt.boxed[Inhabited uN]{x':Hp}(h:GAt B w g x ar kr ac kc vg br bc pb pa pk role)(o:uX (λq=>q=g) w w')(nf:Nf1 g w')(hr:x'.regs=x.regs)(hc:x'.cells=x.cells)(hg:x'.gray=x.gray)(bx:dW w' g x' (.slice ar x.regs.length kr) (.slice ac x.cells.length kc) vg):GAt B w' g x' ar kr ac kc vg br bc pb pa pk role:=by
 have far:∀q,q<w.heap.size->role q≠0->w'.heap[q]?=w.heap[q]?:=λq hq hn=>o.block q hq (λe=>hn (by rw[e];exact h.sp.g))
 have cc:∀q,x'.c q=x.c q:=λq=>by simp only [Hp.c,hc]
 have rw2:=h.rw.same o.size (λhl=>far br (h.rw.nr hl).1.1 (by rw[h.sp.r hl];omega)) (λhl=>far bc (h.rw.nc hl).1.1 (by rw[h.sp.c hl];omega)) (λq hq hl=>far (pb q) (h.rw.pl q hq hl).2.1.1 (by rw[h.sp.p q hq hl];omega));refine⟨by rw[hr,hc];exact bx,nf,h.lo,by rw[hr];exact h.ha,by rw[hc];exact h.hc,?_,by rw[hg];exact h.gr.block (λq hq=>far q (h.gr.lt q hq).2 (by rw[h.sp.y q hq];omega)),?_,by rw[hc];exact h.kl,h.pr.of (λq hq h1=>far q hq (by rw[h1];omega)) (λ_ _ h=>h),λhk=>(h.cc hk).block rfl (far bc (h.cc hk).nf.1 (by rw[(h.cc hk).ro];omega)) o.size⟩
 ·refine⟨λi hi=>?_,λq hq=>?_,λq hq=>?_,λq hq k hk=>?_,λq hq hl=>?_,?_,?_,?_,λq q' hq hq' hne h1 h2=>?_,λq hq=>?_⟩
  ·have hi2:i<x.regs.length:=by rw[<-hr];exact hi
   have e2:x'.regs[i]=x.regs[i]:=by simp [hr]
   rw[e2];exact rw2.r i hi2
  ·rw[hc] at hq;rw[cc];exact rw2.s q hq
  ·rw[hc] at hq;rw[cc];exact rw2.p7 q hq
  ·rw[hc] at hq;rw[cc] at hk ⊢;exact rw2.p q hq k hk
  ·rw[hc] at hq;exact rw2.pl q hq hl
  ·rw[hr];exact rw2.nr
  ·rw[hc];exact rw2.nc
  ·rw[hc];exact rw2.d
  ·rw[hc] at hq hq';exact rw2.dp q q' hq hq' hne h1 h2
  ·rw[hc] at hq;rw[cc];exact rw2.kp q hq
 ·refine⟨h.sp.g,by rw[hr];exact h.sp.r,by rw[hc];exact h.sp.c,h.sp.y,λq hq hl=>?_⟩;rw[hc] at hq;exact h.sp.p q hq hl
theorem GOk.set6[Inhabited uN](h:GOk B w g x)(v:Int):GOk B (w.setCell ⟨g,6,none⟩ (iv v)) g { x with hand:=v }:=by
 obtain⟨ar,kr,ac,kc,vg,br,bc,pb,pa,pk,role,h⟩:=h;exact⟨_,_,_,_,_,_,_,_,_,_,_,h.boxed (x':={ x with hand:=v }) (uX.setCell (S:=λq=>q=g) (uX.refl _ w) (p:=⟨g,6,none⟩) rfl _) (h.nf.set _ _) rfl rfl rfl (h.bx.set6 v)⟩
theorem GOk.set7[Inhabited uN](h:GOk B w g x)(v:Int):GOk B (w.setCell ⟨g,7,none⟩ (iv v)) g { x with sub:=v }:=by
 obtain⟨ar,kr,ac,kc,vg,br,bc,pb,pa,pk,role,h⟩:=h;exact⟨_,_,_,_,_,_,_,_,_,_,_,h.boxed (x':={ x with sub:=v }) (uX.setCell (S:=λq=>q=g) (uX.refl _ w) (p:=⟨g,7,none⟩) rfl _) (h.nf.set _ _) rfl rfl rfl (h.bx.set7 v)⟩
theorem GOk.box[Inhabited uN](h:GOk B w g x):w.cell? ⟨g,6,none⟩=some (iv x.hand)/\w.cell? ⟨g,7,none⟩=some (iv x.sub)/\w.cell? ⟨g,5,none⟩=some (iv x.phase)/\(∀o,w.frozen? ⟨g,o,none⟩=false)/\B<=g/\g<w.heap.size:=by
 obtain⟨ar,kr,ac,kc,vg,br,bc,pb,pa,pk,role,h⟩:=h;exact⟨h.bx.2.2.2.2.2.2.1,h.bx.2.2.2.2.2.2.2.1,h.bx.2.2.2.2.2.1,h.nf.2,h.lo,h.nf.1⟩
theorem b4y{y:Wd}(hy:qN x y)(h0:y.k=2->0<=y.a):a4y x y=uY x y:=by
 unfold a4y uY;by_cases e:(y.k == 2)=true
 ·have hk:y.k=2:=by simpa using e
  have hs:=(hy hk).2;have hb:yZ x y=qU x y.a.toNat:=by simp [yZ,qU,whB,hs,hk]
  rw[if_pos e,hb];unfold uV;have ea:((y.a.toNat:Nat):Int)=y.a:=by have:=h0 hk;omega
  by_cases q:qU x y.a.toNat=true
  ·rw[if_pos q,if_pos q,ea]
  ·rw[if_neg q,if_neg q]
 ·have e2:(y.k == 2)=false:=by simpa using e
  have hb:yZ x y=false:=by simp [yZ,e2]
  rw[if_neg e,hb];simp
theorem b1s[Inhabited uN](B g:Nat)(x:Hp)(y:Wd)(w:World)(h:GOk B w g x)(s:Snd x)(hy:qN x y)(h0:y.k=2->0<=y.a)(a:World)(ha:a.heap.size<=B)(hx:Ext a w)(hB:B<=w.heap.size):
  Calls Tryz.prog 232 #[.pointer (some ⟨g,0,none⟩),y.v] w λe w'=>e=.returned (.bool (yZ x y))/\GOk B w' g (uY x y)/\Ext a w':=by
 obtain⟨ar,kr,ac,kc,vg,br,bc,pb,pa,pk,role,h⟩:=h;obtain⟨ag,kg,rfl⟩:=h.gr.form;refine(a5s y w h (λhk=>⟨h0 hk,by have:=(hy hk).1;have:=h0 hk;omega⟩) s.ok.n8 (by have:=s.r1.gray;have:=s.ok.n8;omega) a ha hx hB).mono ?_;rintro e w' ⟨he,h2,h3⟩;obtain⟨ag',kg',role',h2⟩:=h2;rw[b4y hy h0] at h2;exact⟨he,⟨_,_,_,_,_,_,_,_,_,_,_,h2⟩,h3⟩
theorem a0y[Inhabited uN](B g:Nat)(x:Hp)(p hd:Int)(w:World)(h:GOk B w g x)(a:World)(ha:a.heap.size<=B)(hx:Ext a w):
  Calls Tryz.prog 186 #[.pointer (some ⟨g,0,none⟩),.int .i64 p,.int .i64 hd] w λe w'=>e=.returned (.tuple #[])/\GOk B w' g (dD x p hd)/\Ext a w':=by
 obtain⟨ar,kr,ac,kc,vg,br,bc,pb,pa,pk,role,h⟩:=h;have H:=uU h;obtain⟨_,_,_,_,_,c5,c6,c7,_⟩:=h.bx;have f5:=h.nf.2 5;have f6:=h.nf.2 6;have f7:=h.nf.2 7;clear h;go_enter Tryz.func186,Tryz.ntmps186;go_wp2_with fail
 go_end0
 have b1:=((H.bx.set5 p).set6 hd).set7 0;have o1:=uX.setCell (S:=λq=>q=g) (uX.setCell (S:=λq=>q=g) (uX.setCell (S:=λq=>q=g) (uX.refl _ w) (p:=⟨g,5,none⟩) rfl (iv p)) (p:=⟨g,6,none⟩) rfl (iv hd)) (p:=⟨g,7,none⟩) rfl (iv 0);exact⟨rfl,⟨_,_,_,_,_,_,_,_,_,_,_,H.boxed (x':=dD x p hd) o1 (((H.nf.set _ _).set _ _).set _ _) rfl rfl rfl b1⟩,o1.ext hx (λq hq e=>by have:=H.lo;omega)⟩
theorem a0q(w:World)(n:Nat)(cs:Array Value)(t:TypeId)(j:Nat):((w.drewN n).alloc (.cells cs t)).cell? ⟨w.heap.size,j,none⟩=cs[j]?:=by
 have e:(w.drewN n).heap.size=w.heap.size:=by simp
 have:=heap_alloc_new (w.drewN n) (.cells cs t);rw[e] at this;exact cell_of_row _ w.heap.size j _ _ (0,0) this
theorem a3q(w:World)(n:Nat)(o:Obj)(b j:Nat)(h:b<w.heap.size):((w.drewN n).alloc o).cell? ⟨b,j,none⟩=w.cell? ⟨b,j,none⟩:=by
 have x:=((Ext.refl w).drewN n).alloc o;exact x.cell (p:=⟨b,j,none⟩) h
theorem a3h(w:World)(n:Nat)(cs:Array Value)(t:TypeId)(j:Nat):((w.drewN n).alloc (.cells cs t)).frozen? ⟨w.heap.size,j,none⟩=false:=by
 have e:(w.drewN n).heap.size=w.heap.size:=by simp
 have key:∀W:World,(W.alloc (.cells cs t)).frozen? ⟨W.heap.size,j,none⟩=false:=λW=>by simp [go_sem]
 have:=key (w.drewN n);rw[e] at this;exact this
theorem b6q [Inhabited uN] (B g : Nat) (x : Hp) (w : World) (h : GOk B w g x) (s : Snd x) (a : World) (ha : a.heap.size <= B) (hx : Ext a w) (hB : B <= w.heap.size) :
    Calls Tryz.prog 187 #[.pointer (some ⟨g, 0, none⟩)] w λe w' => e = .returned (.tuple #[]) /\ GOk B w' g (qC x) /\ Ext a w' := by
  obtain ⟨ar, kr, ac, kc, vg, br, bc, pb, pa, pk, role, h⟩ := h
  have HO := uU (show GOk B w g x from ⟨_, _, _, _, _, _, _, _, _, _, _, h⟩)
  have H := uU h
  have c4 := h.bx.2.2.2.2.1
  have c6 := h.bx.2.2.2.2.2.2.1
  have hgw : g < w.heap.size := uL c4
  have lo := h.lo
  have n8 := s.ok.n8
  have S := uU s
  have hh := s.r1.hand
  clear h
  by_cases he : x.hand = x.cells.length
  · have E := uU (show qC x = dD x 2 0 by unfold qC; rw [if_pos he])
    have heb : (x.hand == (x.cells.length : Int)) = true := by simpa using he
    clear he
    go_enter Tryz.func187, Tryz.ntmps187
    go_wp2_with fail
    go_quiet (fail)
    go_wp2_with fail
    refine (a0y B g x 2 0 _ (HO.ext ((Ext.refl w).drewN _)) a ha (hx.drewN _)).mono ?_
    rintro e w2 ⟨rfl, h2, x2⟩
    have H2 := uU h2
    clear h2
    go_wp2_with fail
    try simp only [Exit.inBlock, Exit.then]
    refine bodyPost_ret (results_none rfl _ _ _) rfl ?_
    exact ⟨rfl, by rw [uH E]; exact uH H2, x2⟩
  · obtain ⟨i, hi⟩ : ∃ i : Nat, x.hand = (i : Int) := ⟨x.hand.toNat, by omega⟩
    have hin : i < x.cells.length := by omega
    have heb : (x.hand == (x.cells.length : Int)) = false := by simpa using he
    rw [hi] at heb c6
    have hn : 0 < x.cells.length := by omega
    rw [H.hc hn] at c4
    obtain ⟨p0, p1, p2, p3, p4, p5, p6⟩ := H.rw.s i hin
    have p7 := H.rw.p7 i hin
    have hbc : bc < w.heap.size := uL p0
    have i0 : (0:Int) <= (i:Int) := by omega
    have i1 : (i:Int) < (x.cells.length:Int) := by omega
    have ei : x.hand.toNat = i := by omega
    have EU := uU (show qC x = { (if tJ (x.c i) = true then uV x i else x) with hand := x.hand + 1 } by unfold qC; rw [if_neg he, ei])
    have HI := uU hi
    have zn := λn j => a0q w n #[.int .i64 0, .int .i64 0, .int .i64 0, .int .i64 0, .int .i64 0, .int .i64 0, .int .i64 0, .slice none 0 0] 62 j
    have zf := λn j => a3h w n #[.int .i64 0, .int .i64 0, .int .i64 0, .int .i64 0, .int .i64 0, .int .i64 0, .int .i64 0, .slice none 0 0] 62 j
    have zo := λn o b j (h : b < w.heap.size) => a3q w n o b j h
    clear he hi ei hh
    go_enter Tryz.func187, Tryz.ntmps187
    go_wp2_with fail
    go_quiet (fail)
    go_wp2_with fail
    go_region
    all_goals
      obtain ⟨W2, hW2⟩ : ∃ W, W = (((((((((w.drewN (nq + 1)).alloc (.cells #[.int .i64 0, .int .i64 0, .int .i64 0, .int .i64 0, .int .i64 0, .int .i64 0, .int .i64 0, .slice none 0 0] 62)).setCell ⟨w.heap.size, 0, none⟩ (.int .i64 (x.c i).st)).setCell ⟨w.heap.size, 1, none⟩ (.int .i64 (x.c i).kind)).setCell ⟨w.heap.size, 2, none⟩ (.int .i64 (x.c i).weak)).setCell ⟨w.heap.size, 3, none⟩ (.int .i64 (x.c i).last)).setCell ⟨w.heap.size, 4, none⟩ (.int .i64 (x.c i).born)).setCell ⟨w.heap.size, 5, none⟩ (.int .i64 (x.c i).color)).setCell ⟨w.heap.size, 6, none⟩ (.int .i64 (x.c i).to)).setCell ⟨w.heap.size, 7, none⟩ (.slice (pa i) (x.c i).prs.length (pk i)) := ⟨_, rfl⟩
      have X2 : Ext w W2 := by
        rw [hW2]
        exact (((((((((Ext.refl w).drewN (nq + 1)).alloc _).setCell (Nat.le_refl _) _).setCell (Nat.le_refl _) _).setCell (Nat.le_refl _) _).setCell (Nat.le_refl _) _).setCell (Nat.le_refl _) _).setCell (Nat.le_refl _) _).setCell (Nat.le_refl _) _ |>.setCell (Nat.le_refl _) _
      have l3 : W2.cell? ⟨w.heap.size, 3, none⟩ = some (iv (x.c i).last) := by
        rw [hW2, uC _ (.inr (by omega)), uC _ (.inr (by omega)), uC _ (.inr (by omega)), uC _ (.inr (by omega))]
        exact World.cell?_setCell_same _ _ _ (by rw [uC _ (.inr (by omega)), uC _ (.inr (by omega)), uC _ (.inr (by omega)), zn]; rfl)
      rw [<- hW2]
      clear hW2 zn zf zo
      have d6 := X2.keep c6
      have hgW : g < W2.heap.size := uL d6
      have f6 : W2.frozen? ⟨g, 6, none⟩ = false := ((cZ X2).2 g 6 hgw).trans (H.nf.2 6)
      cases l1 : ((x.c i).last == 1)
      · cases l2 : ((x.c i).last == 2)
        · have EF := uU (show qC x = { x with hand := x.hand + 1 } by rw [uH EU, if_neg (by simp [tJ, l1, l2])])
          have H3 := uU ((HO.ext X2).set6 (x.hand + 1))
          have X3 := uU ((hx.trans X2).setCell (p := ⟨g, 6, none⟩) (show a.heap.size <= g by omega) (iv (x.hand + 1)))
          rw [uH HI] at H3 X3 EF
          go_wp2_with fail
          go_end0
          exact ⟨rfl, by rw [uH EF]; exact uH H3, uH X3⟩
        ·
          have SP := uU (show tJ (x.c i) = true by simp [tJ, l2])
          have GD := uU (show qN x ⟨2, 0, i⟩ from λ_ => ⟨by simpa using hin, by
            have hsp := (a8k _).1 SP
            have e : ((i : Int)).toNat = i := by omega
            show (x.c ((i : Int)).toNat).st = 1
            rw [e]
            rcases S.r2.1 i hin with ⟨_, b, _⟩ | ⟨_, b⟩ | ⟨a, _⟩
            · have := b.2.2.1; rcases hsp with q | q <;> omega
            · have := b.1.2.2.1; rcases hsp with q | q <;> omega
            · exact a⟩)
          go_wp2_with fail
          refine (b1s B g x ⟨2, 0, i⟩ _ (HO.ext X2) S GD (λ_ => i0) a ha (hx.trans X2) (Nat.le_trans hB X2.size)).mono ?_
          rintro e w3 ⟨rfl, h3, x3⟩
          have H3 := uU (h3.set6 (x.hand + 1))
          have X3 := uU (x3.setCell (p := ⟨g, 6, none⟩) (show a.heap.size <= g by omega) (iv (x.hand + 1)))
          obtain ⟨q6, _, _, ef, _, eg⟩ := h3.box
          have e6 : w3.cell? ⟨g, 6, none⟩ = some (iv i) := by rw [q6, (a0b x _).2.2.2.1, uH HI]
          have ef6 := ef 6
          rw [uH HI] at H3 X3
          have EF := uU (show qC x = { uY x ⟨2, 0, i⟩ with hand := (i : Int) + 1 } by
            rw [uH EU, if_pos (uH SP), uH HI]
            have : uY x ⟨2, 0, i⟩ = uV x i := by unfold uY; simp
            rw [this])
          clear h3 x3 ef q6
          go_wp2_with fail
          go_end0
          exact ⟨rfl, by rw [uH EF]; exact uH H3, uH X3⟩
      ·
        have SP := uU (show tJ (x.c i) = true by simp [tJ, l1])
        have GD := uU (show qN x ⟨2, 0, i⟩ from λ_ => ⟨by simpa using hin, by
          have hsp := (a8k _).1 SP
          have e : ((i : Int)).toNat = i := by omega
          show (x.c ((i : Int)).toNat).st = 1
          rw [e]
          rcases S.r2.1 i hin with ⟨_, b, _⟩ | ⟨_, b⟩ | ⟨a, _⟩
          · have := b.2.2.1; rcases hsp with q | q <;> omega
          · have := b.1.2.2.1; rcases hsp with q | q <;> omega
          · exact a⟩)
        go_wp2_with fail
        refine (b1s B g x ⟨2, 0, i⟩ _ (HO.ext X2) S GD (λ_ => i0) a ha (hx.trans X2) (Nat.le_trans hB X2.size)).mono ?_
        rintro e w3 ⟨rfl, h3, x3⟩
        have H3 := uU (h3.set6 (x.hand + 1))
        have X3 := uU (x3.setCell (p := ⟨g, 6, none⟩) (show a.heap.size <= g by omega) (iv (x.hand + 1)))
        obtain ⟨q6, _, _, ef, _, eg⟩ := h3.box
        have e6 : w3.cell? ⟨g, 6, none⟩ = some (iv i) := by rw [q6, (a0b x _).2.2.2.1, uH HI]
        have ef6 := ef 6
        rw [uH HI] at H3 X3
        have EF := uU (show qC x = { uY x ⟨2, 0, i⟩ with hand := (i : Int) + 1 } by
          rw [uH EU, if_pos (uH SP), uH HI]
          have : uY x ⟨2, 0, i⟩ = uV x i := by unfold uY; simp
          rw [this])
        clear h3 x3 ef q6
        go_wp2_with fail
        go_end0
        exact ⟨rfl, by rw [uH EF]; exact uH H3, uH X3⟩
theorem GAt.turn[Inhabited uN](h:GAt B w g x ar kr ac kc vg br bc pb pa pk role)(cs:List Cl)(hl:cs.length=x.cells.length)(so:Nat->Nat)(pa':Nat->Option Addr)(pk':Nat->Nat)(role':Nat->Nat)(hn:0<x.cells.length)
  (o:uX (λq=>q=bc) w w') (nf:Nf1 bc w')
  (hs:∀q,q<x.cells.length->S7 w' bc (q*8) (({ x with cells:=cs }:Hp).c q))
  (h7:∀q,q<x.cells.length->w'.cell? ⟨bc,q*8+7,none⟩=some (.slice (pa' q) (({ x with cells:=cs }:Hp).c q).prs.length (pk' q)))
  (hkp:∀q,q<x.cells.length->(({ x with cells:=cs }:Hp).c q).prs.length<=pk' q)
  (hso:∀q,q<x.cells.length->0<pk' q->(so q<x.cells.length/\pk' q=pk (so q))/\(x.c (so q)).prs=(({ x with cells:=cs }:Hp).c q).prs/\pa' q=pa (so q)/\role' (pb (so q))=6+q)
  (hro:∀q,role q<6->role' q=role q) (hcc:∀j,x.cells.length*8<=j->w'.cell? ⟨bc,j,none⟩=w.cell? ⟨bc,j,none⟩) :
  GAt B w' g { x with cells:=cs } ar kr ac kc vg br bc (λq=>pb (so q)) pa' pk' role':=by
 have far:∀q,q<w.heap.size->role q≠3->w'.heap[q]?=w.heap[q]?:=λq hq hr=>o.block q hq (λe=>hr (by rw[e];exact h.sp.c hn))
 have hl':({ x with cells:=cs }:Hp).cells.length=x.cells.length:=hl;have fg:=far g h.nf.1 (by rw[h.sp.g];omega);have pf:∀q,q<x.cells.length->0<pk q->w'.heap[pb q]?=w.heap[pb q]?:=λq hq hl=>far (pb q) (h.rw.pl q hq hl).2.1.1 (by rw[h.sp.p q hq hl];omega)
 refine⟨?_,hY h.nf fg o.size,h.lo,h.ha,λ_=>h.hc hn,⟨λk hk=>?_,λq hq=>?_,λq hq=>?_,λq hq k hk=>?_,λq hq hlq=>?_,λhr=>⟨hY (h.rw.nr hr).1 (far br (h.rw.nr hr).1.1 (by rw[h.sp.r hr];omega)) o.size,(h.rw.nr hr).2⟩,λ_=>⟨nf,(h.rw.nc hn).2⟩,λ_=>h.rw.d hn,λq q' hq hq' hne h1 h2=>?_,λq hq=>?_⟩,h.gr.block (λq hq=>far q (h.gr.lt q hq).2 (by rw[h.sp.y q hq];omega)),⟨?_,λhr=>?_,λ_=>?_,λq hq=>?_,λq hq hlq=>?_⟩,by rw[hl'];exact h.kl,h.pr.of (λq hq h1=>far q hq (by rw[h1];omega)) (λq _ h1=>by rw[hro q (by rw[h1];omega)];exact h1),λhk=>(h.cc hk).cells (hro bc (by rw[(h.cc hk).ro];omega)) nf (λj v _ hv=>?_)⟩
 ·rw[hl'];exact(h.bx.block fg)
 ·exact(h.rw.r k hk).of λj _=>World.cell?_of_block (a:=⟨br,_,none⟩) (far br (h.rw.nr (by have:k<x.regs.length:=hk;omega)).1.1 (by rw[h.sp.r (by have:k<x.regs.length:=hk;omega)];omega))
 ·rw[hl'] at hq;exact hs q hq
 ·rw[hl'] at hq;exact h7 q hq
 ·rw[hl'] at hq;obtain⟨⟨a1,_⟩,a2,_⟩:=hso q hq (by have:=hkp q hq;omega);have e2:(({ x with cells:=cs }:Hp).c q).p k=(x.c (so q)).p k:=by simp only [Cl.p,a2]
  rw[<-a2] at hk;rw[e2];exact(h.rw.p (so q) a1 k hk).of λj _=>World.cell?_of_block (a:=⟨pb (so q),_,none⟩) (pf (so q) a1 (h.rw.pw a1 (by omega)))
 ·rw[hl'] at hq;obtain⟨⟨a1,a0⟩,a2,a3,_⟩:=hso q hq hlq;rw[a0] at hlq;obtain⟨b1,b2,b3⟩:=h.rw.pl (so q) a1 hlq;exact⟨a3.trans b1,by rw[a0];exact a0f b2 (pf (so q) a1 hlq) o.size,b3⟩
 ·rw[hl'] at hq hq';intro e;have r1:=(hso q hq h1).2.2.2;have r2:=(hso q' hq' h2).2.2.2;have e':pb (so q)=pb (so q'):=e;rw[e',r2] at r1;omega
 ·rw[hl'] at hq;exact hkp q hq
 ·rw[hro g (by rw[h.sp.g];omega)];exact h.sp.g
 ·have:=h.sp.r hr;rw[hro br (by omega)];exact this
 ·have:=h.sp.c hn;rw[hro bc (by omega)];exact this
 ·have:=h.sp.y q hq;rw[hro q (by omega)];exact this
 ·rw[hl'] at hq;exact(hso q hq hlq).2.2.2
 ·by_cases e:x.cells.length*8<=j
  ·exact⟨v,(hcc j e).trans hv⟩
  ·by_cases e7:j % 8=7
   ·have:=h7 (j / 8) (by omega);rw[show j / 8*8+7=j by omega] at this;exact⟨_,this⟩
   ·have:=(hs (j / 8) (by omega)).some (j % 8) (by omega);rw[show j / 8*8+j % 8=j by omega] at this;exact this
theorem GAt.clear[Inhabited uN](h:GAt B w g x ar kr ac kc vg br bc pb pa pk role)(i:Nat)(hi:i<x.cells.length)(c':Cl)(hp:c'.prs=[])(o:uX (λq=>q=bc) w w')(nf:Nf1 bc w')(hs:S7 w' bc (i*8) c')(h7:w'.cell? ⟨bc,i*8+7,none⟩=some (.slice none 0 0))(ho:∀k,(k<i*8\/i*8+8<=k)->w'.cell? ⟨bc,k,none⟩=w.cell? ⟨bc,k,none⟩):
  GAt B w' g { x with cells:=x.cells.set i c' } ar kr ac kc vg br bc pb (λq=>if q=i then none else pa q) (λq=>if q=i then 0 else pk q) role:=by
 have hc:=Hp.c_set x i c' hi;refine h.turn (x.cells.set i c') (by simp) (λq=>q) _ _ role (by omega) o nf (λq hq=>?_) (λq hq=>?_) (λq hq=>?_) (λq hq hl=>?_) (λ_ _=>rfl) (λj hj=>ho j (by omega))
 ·rw[hc q];by_cases e:q=i
  ·subst e;rw[if_pos rfl];exact hs
  ·rw[if_neg e];exact(h.rw.s q hq).of λj hj=>ho _ (by omega)
 ·rw[hc q];by_cases e:q=i
  ·subst e;simp only [if_true,hp];exact h7
  ·simp only [if_neg e];rw[ho _ (by omega)];exact h.rw.p7 q hq
 ·rw[hc q];by_cases e:q=i
  ·rw[if_pos e,hp];simp
  ·rw[if_neg e,if_neg e];exact h.rw.kp q hq
 ·rw[hc q];by_cases e:q=i
  ·rw[if_pos e] at hl;omega
  ·rw[if_neg e] at hl;exact⟨⟨hq,if_neg e⟩,by rw[if_neg e],if_neg e,h.sp.p q hq hl⟩
theorem GOk.set1[Inhabited uN](h:GOk B w g x)(v:Int):GOk B (w.setCell ⟨g,1,none⟩ (iv v)) g { x with used:=v }:=by
 obtain⟨ar,kr,ac,kc,vg,br,bc,pb,pa,pk,role,h⟩:=h;exact⟨_,_,_,_,_,_,_,_,_,_,_,h.boxed (x':={ x with used:=v }) (uX.setCell (S:=λq=>q=g) (uX.refl _ w) (p:=⟨g,1,none⟩) rfl _) (h.nf.set _ _) rfl rfl rfl (h.bx.set1 v)⟩
theorem a2b(n:Int)(h0:-1000000<=n)(h1:n<=1000000):wrap64 n=n:=by unfold wrap64;omega
theorem dQ{p:Addr}{v u:Value}(h:w.cell? p=some u):(w.setCell p v).cell? p=some v:=World.cell?_setCell_same _ _ _ h
def zY(w:World)(b o:Nat)(st tv:Int):World:=(((((((w.setCell ⟨b,o,none⟩ (iv st)).setCell ⟨b,o+1,none⟩ (iv 0)).setCell ⟨b,o+2,none⟩ (iv 0)).setCell ⟨b,o+3,none⟩ (iv 0)).setCell ⟨b,o+4,none⟩ (iv 0)).setCell ⟨b,o+5,none⟩ (iv 0)).setCell ⟨b,o+6,none⟩ (iv tv)).setCell ⟨b,o+7,none⟩ (.slice none 0 0)
theorem a0g(w:World)(b o:Nat)(st tv:Int):uX (λq=>q=b) w (zY w b o st tv):=
 uX.setCell (S:=λq=>q=b) (uX.setCell (S:=λq=>q=b) (uX.setCell (S:=λq=>q=b) (uX.setCell (S:=λq=>q=b) (uX.setCell (S:=λq=>q=b) (uX.setCell (S:=λq=>q=b) (uX.setCell (S:=λq=>q=b) (uX.setCell (S:=λq=>q=b) (uX.refl _ w) (p:=⟨b,o,none⟩) rfl _) (p:=⟨b,o+1,none⟩) rfl _) (p:=⟨b,o+2,none⟩) rfl _) (p:=⟨b,o+3,none⟩) rfl _) (p:=⟨b,o+4,none⟩) rfl _) (p:=⟨b,o+5,none⟩) rfl _) (p:=⟨b,o+6,none⟩) rfl _) (p:=⟨b,o+7,none⟩) rfl _
theorem a8p{b:Nat}(h:Nf1 b w)(o:Nat)(st tv:Int):Nf1 b (zY w b o st tv):=(((((((h.set _ _).set _ _).set _ _).set _ _).set _ _).set _ _).set _ _).set _ _
theorem a3r(w:World)(b o:Nat)(st tv:Int)(k:Nat)(hk:k<o\/o+8<=k):(zY w b o st tv).cell? ⟨b,k,none⟩=w.cell? ⟨b,k,none⟩:=by
 unfold zY;rw[uC _ (.inr (by omega)),uC _ (.inr (by omega)),uC _ (.inr (by omega)),uC _ (.inr (by omega)),uC _ (.inr (by omega)),uC _ (.inr (by omega)),uC _ (.inr (by omega)),uC _ (.inr (by omega))]
theorem a4m(w:World)(b o:Nat)(st tv:Int)(c:Cl)(v:Value)(h:S7 w b o c)(h7:w.cell? ⟨b,o+7,none⟩=some v):S7 (zY w b o st tv) b o ⟨st,0,0,0,0,0,tv,[]⟩/\(zY w b o st tv).cell? ⟨b,o+7,none⟩=some (.slice none 0 0):=by
 obtain⟨a0,a1,a2,a3,a4,a5,a6⟩:=h;unfold zY;refine⟨⟨?_,?_,?_,?_,?_,?_,?_⟩,?_⟩
 ·iterate 7 rw[uC _ (.inr (by omega))]
  exact World.cell?_setCell_same _ _ _ a0
 ·iterate 6 rw[uC _ (.inr (by omega))]
  exact World.cell?_setCell_same _ _ _ ((uC _ (.inr (by omega))).trans a1)
 ·iterate 5 rw[uC _ (.inr (by omega))]
  refine dQ (u:=iv c.weak) ?_
  iterate 2 rw[uC _ (.inr (by omega))]
  exact a2
 ·iterate 4 rw[uC _ (.inr (by omega))]
  refine dQ (u:=iv c.last) ?_
  iterate 3 rw[uC _ (.inr (by omega))]
  exact a3
 ·iterate 3 rw[uC _ (.inr (by omega))]
  refine dQ (u:=iv c.born) ?_
  iterate 4 rw[uC _ (.inr (by omega))]
  exact a4
 ·iterate 2 rw[uC _ (.inr (by omega))]
  refine dQ (u:=iv c.color) ?_
  iterate 5 rw[uC _ (.inr (by omega))]
  exact a5
 ·rw[uC _ (.inr (by omega))];refine dQ (u:=iv c.to) ?_
  iterate 6 rw[uC _ (.inr (by omega))]
  exact a6
 ·refine dQ (u:=v) ?_
  iterate 7 rw[uC _ (.inr (by omega))]
  exact h7
theorem GAt.wipe[Inhabited uN](h:GAt B w g x ar kr ac kc vg br bc pb pa pk role)(i:Nat)(hi:i<x.cells.length)(st tv:Int):GOk B (zY w bc (i*8) st tv) g { x with cells:=x.cells.set i ⟨st,0,0,0,0,0,tv,[]⟩ }:=by
 obtain⟨k1,k2⟩:=a4m w bc (i*8) st tv _ _ (h.rw.s i hi) (h.rw.p7 i hi);exact⟨_,_,_,_,_,_,_,_,_,_,_,h.clear i hi _ rfl (a0g _ _ _ _ _) (a8p (h.rw.nc (by omega)).1 _ _ _) k1 k2 (λk hk=>a3r _ _ _ _ _ k hk)⟩
end Go.Proofs.YtddkhnclmeikfaaGreat
