import Derived.Test.YtddkhnclmeikfaaGreatLh
set_option maxRecDepth 100000
set_option maxHeartbeats 1000000
namespace Go.Proofs.YtddkhnclmeikfaaGreat
open Go.RowKit
attribute [local go_sem ↓] Go.wp_at_zero Go.wp_at_succ
variable{B g kr kc br bc gb go:Nat}{w w':World}{x:Hp}{ar ac:Option Addr}{pb pk role:Nat->Nat}{pa:Nat->Option Addr}{vg:Value}{G:List Int}
theorem GAt.drop[Inhabited uN](h:GAt B w g x ar kr ac kc vg br bc pb pa pk role)(i:Nat)(hi:i+1=x.cells.length):
  GOk B (w.setCell ⟨g,4,none⟩ (.slice ac i kc)) g { x with cells:=x.cells.take i }:=by
 have far:∀q,q<w.heap.size->role q≠0->(w.setCell ⟨g,4,none⟩ (.slice ac i kc)).heap[q]?=w.heap[q]?:=λq hq hn=>Below.heap_setCell _ _ _ _ (λe=>hn (by rw[e];exact h.sp.g))
 have rw2:=h.rw.same (w':=w.setCell ⟨g,4,none⟩ (.slice ac i kc)) (by simp [World.setCell]) (λhl=>far br (h.rw.nr hl).1.1 (by rw[h.sp.r hl];omega)) (λhl=>far bc (h.rw.nc hl).1.1 (by rw[h.sp.c hl];omega)) (λq hq hl=>far (pb q) (h.rw.pl q hq hl).2.1.1 (by rw[h.sp.p q hq hl];omega));have hl:({ x with cells:=x.cells.take i }:Hp).cells.length=i:=by simp;omega
 have hn:0<x.cells.length:=by omega
 have hc:∀q,q<i->({ x with cells:=x.cells.take i }:Hp).c q=x.c q:=λq hq=>by
  simp only [Hp.c,List.getD_eq_getElem?_getD,List.getElem?_take_of_lt hq]
 refine⟨ar,kr,ac,kc,vg,br,bc,pb,pa,pk,role,?_,h.nf.set _ _,h.lo,h.ha,λ_=>h.hc hn,⟨rw2.r,λq hq=>?_,λq hq=>?_,λq hq k hk=>?_,λq hq hlq=>?_,rw2.nr,λ_=>rw2.nc hn,λ_=>rw2.d hn,λq q' hq hq' hne h1 h2=>?_,λq hq=>?_⟩,h.gr.block (λq hq=>far q (h.gr.lt q hq).2 (by rw[h.sp.y q hq];omega)),⟨h.sp.g,h.sp.r,λ_=>h.sp.c hn,h.sp.y,λq hq hlq=>?_⟩,by rw[hl];have:=h.kl;omega,h.pr.of (λq hq h1=>far q hq (by rw[h1];omega)) (λ_ _ h=>h),λhk=>(h.cc hk).block rfl (far bc (h.cc hk).nf.1 (by rw[(h.cc hk).ro];omega)) (by simp [World.setCell])⟩
 ·rw[hl];exact h.bx.set4 _
 ·rw[hl] at hq;rw[hc q hq];exact rw2.s q (by omega)
 ·rw[hl] at hq;rw[hc q hq];exact rw2.p7 q (by omega)
 ·rw[hl] at hq;rw[hc q hq] at hk ⊢;exact rw2.p q (by omega) k hk
 ·rw[hl] at hq;exact rw2.pl q (by omega) hlq
 ·rw[hl] at hq hq';exact rw2.dp q q' (by omega) (by omega) hne h1 h2
 ·rw[hl] at hq;rw[hc q hq];exact rw2.kp q (by omega)
 ·rw[hl] at hq;exact h.sp.p q (by omega) hlq
theorem GAt.setr[Inhabited uN](h:GAt B w g x ar kr ac kc vg br bc pb pa pk role)(j:Nat)(hj:j<x.regs.length)(y:Wd)(o:uX (λq=>q=br) w w')(nf:Nf1 br w')(hy:tW w' br (j*3) y)(ho:∀m,(m<j*3\/j*3+3<=m)->w'.cell? ⟨br,m,none⟩=w.cell? ⟨br,m,none⟩):
  GAt B w' g { x with regs:=x.regs.set j y } ar kr ac kc vg br bc pb pa pk role:=by
 have hr:0<x.regs.length:=by omega
 have far:∀q,q<w.heap.size->role q≠2->w'.heap[q]?=w.heap[q]?:=λq hq hn=>o.block q hq (λe=>hn (by rw[e];exact h.sp.r hr))
 have fg:=far g h.nf.1 (by rw[h.sp.g];omega);have hl:({ x with regs:=x.regs.set j y }:Hp).regs.length=x.regs.length:=by simp
 have pf:∀q,q<x.cells.length->0<pk q->w'.heap[pb q]?=w.heap[pb q]?:=λq hq hl=>far (pb q) (h.rw.pl q hq hl).2.1.1 (by rw[h.sp.p q hq hl];omega)
 have fc:0<x.cells.length->w'.heap[bc]?=w.heap[bc]?:=λhn=>far bc (h.rw.nc hn).1.1 (by rw[h.sp.c hn];omega)
 refine⟨?_,hY h.nf fg o.size,h.lo,λ_=>h.ha hr,h.hc,⟨λm hm=>?_,λq hq=>?_,λq hq=>?_,λq hq k hk=>?_,λq hq hlq=>?_,λ_=>⟨nf,(h.rw.nr hr).2⟩,λhn=>⟨hY (h.rw.nc hn).1 (fc hn) o.size,(h.rw.nc hn).2⟩,h.rw.d,h.rw.dp,h.rw.kp⟩,h.gr.block (λq hq=>far q (h.gr.lt q hq).2 (by rw[h.sp.y q hq];omega)),⟨h.sp.g,λ_=>h.sp.r hr,h.sp.c,h.sp.y,h.sp.p⟩,h.kl,h.pr.of (λq hq h1=>far q hq (by rw[h1];omega)) (λ_ _ h=>h),λhk=>(h.cc hk).block rfl (far bc (h.cc hk).nf.1 (by rw[(h.cc hk).ro];omega)) o.size⟩
 ·rw[hl];exact h.bx.block fg
 ·have hm2:m<x.regs.length:=by rw[hl] at hm;exact hm
  by_cases e:m=j
  ·subst e;have:({ x with regs:=x.regs.set m y }:Hp).regs[m]=y:=by simp
   rw[this];exact hy
  ·have hne:j≠m:=λe2=>e e2.symm
   have:({ x with regs:=x.regs.set j y }:Hp).regs[m]=x.regs[m]:=by simp [hne]
   rw[this];exact(h.rw.r m hm2).of λl hl=>ho _ (by omega)
 ·exact(h.rw.s q hq).of λm _=>World.cell?_of_block (a:=⟨bc,_,none⟩) (fc (by have:q<x.cells.length:=hq;omega))
 ·rw[World.cell?_of_block (a:=⟨bc,_,none⟩) (fc (by have:q<x.cells.length:=hq;omega))];exact h.rw.p7 q hq
 ·exact(h.rw.p q hq k hk).of λm _=>World.cell?_of_block (a:=⟨pb q,_,none⟩) (pf q hq (h.rw.pw hq (by have:k<(x.c q).prs.length:=hk;omega)))
 ·obtain⟨a1,a2,a3⟩:=h.rw.pl q hq hlq;exact⟨a1,a0f a2 (pf q hq hlq) o.size,a3⟩
theorem GAt.move[Inhabited uN](h:GAt B w g x ar kr ac kc vg br bc pb pa pk role)(t f:Nat)(htf:t≠f)(ht:t<x.cells.length)(hf:f<x.cells.length)(o:uX (λq=>q=bc) w w')(nf:Nf1 bc w')(hs:S7 w' bc (t*8) (x.c f))(h7:w'.cell? ⟨bc,t*8+7,none⟩=some (.slice (pa f) (x.c f).prs.length (pk f)))(gs:S7 w' bc (f*8) (mvC t))(g7:w'.cell? ⟨bc,f*8+7,none⟩=some (.slice none 0 0))
  (ho:∀q,q<x.cells.length->q≠t->q≠f->∀k,k<8->w'.cell? ⟨bc,q*8+k,none⟩=w.cell? ⟨bc,q*8+k,none⟩) (hcc:∀j,x.cells.length*8<=j->w'.cell? ⟨bc,j,none⟩=w.cell? ⟨bc,j,none⟩) :
  ∃pb' pa' pk' role',GAt B w' g { x with cells:=(x.cells.set t (x.c f)).set f (mvC t) } ar kr ac kc vg br bc pb' pa' pk' role':=by
 have hc:∀q,({ x with cells:=(x.cells.set t (x.c f)).set f (mvC t) }:Hp).c q=if q=f then mvC t else if q=t then x.c f else x.c q:=λq=>by
  have h1:=Hp.c_set { x with cells:=x.cells.set t (x.c f) } f (mvC t) (by simpa using hf) q;have h2:=Hp.c_set x t (x.c f) ht q;have e:({ x with cells:=(x.cells.set t (x.c f)).set f (mvC t) }:Hp)={ ({ x with cells:=x.cells.set t (x.c f) }:Hp) with cells:=({ x with cells:=x.cells.set t (x.c f) }:Hp).cells.set f (mvC t) }:=rfl;rw[e,h1];by_cases e1:q=f
  ·rw[if_pos e1,if_pos e1]
  ·rw[if_neg e1,if_neg e1];exact h2
 refine⟨_,_,_,_,h.turn ((x.cells.set t (x.c f)).set f (mvC t)) (by simp) (λq=>if q=t then f else q) (λq=>if q=f then none else if q=t then pa f else pa q) (λq=>if q=f then 0 else if q=t then pk f else pk q) (λb=>if 0<pk f/\b=pb f then 6+t else role b) (by omega) o nf (λq hq=>?_) (λq hq=>?_) (λq hq=>?_) (λq hq hl=>?_) (λb hb=>?_) hcc⟩
 ·rw[hc q];by_cases e1:q=f
  ·subst e1;rw[if_pos rfl];exact gs
  ·rw[if_neg e1];by_cases e2:q=t
   ·subst e2;rw[if_pos rfl];exact hs
   ·rw[if_neg e2];exact(h.rw.s q hq).of λj hj=>ho q hq e2 e1 j (by omega)
 ·rw[hc q];by_cases e1:q=f
  ·subst e1;simp only [if_true];exact g7
  ·simp only [if_neg e1];by_cases e2:q=t
   ·subst e2;simp only [if_true];exact h7
   ·simp only [if_neg e2];rw[ho q hq e2 e1 7 (by omega)];exact h.rw.p7 q hq
 ·rw[hc q];by_cases e1:q=f
  ·rw[if_pos e1];simp [mvC]
  ·simp only [if_neg e1];by_cases e2:q=t
   ·simp only [if_pos e2];exact h.rw.kp f hf
   ·simp only [if_neg e2];exact h.rw.kp q hq
 ·rw[hc q];by_cases e1:q=f
  ·rw[if_pos e1] at hl;omega
  ·rw[if_neg e1] at hl;simp only [if_neg e1];by_cases e2:q=t
   ·rw[if_pos e2] at hl;simp only [if_pos e2];exact⟨⟨hf,trivial⟩,trivial,trivial,by rw[if_pos ⟨hl,trivial⟩,e2]⟩
   ·rw[if_neg e2] at hl;simp only [if_neg e2];refine⟨⟨hq,trivial⟩,trivial,trivial,?_⟩;rw[if_neg (λe=>?_)]
    ·exact h.sp.p q hq hl
    ·have r1:=h.sp.p q hq hl;have r2:=h.sp.p f hf e.1;rw[e.2] at r1;omega
 ·by_cases e:0<pk f/\b=pb f
  ·have r2:=h.sp.p f hf e.1;rw[<-e.2] at r2;omega
  ·rw[if_neg e]
theorem b1t(x:Hp)(y:Wd)(v:Int):uY { x with sub:=v } y={ uY x y with sub:=v }:=by
 have e:∀i,uV { x with sub:=v } i={ uV x i with sub:=v }:=λi=>by
  have hb:qU { x with sub:=v } i=qU x i:=rfl;unfold uV;rw[hb]
  split <;> rfl
 unfold uY
 split
 ·exact e _
 ·rfl
theorem a8q[Inhabited uN](B g:Nat)(x:Hp)(y:Wd)(w:World)(h:GOk B w g x)(n8:x.cells.length<=8000)(ng:x.gray.length<=8000)(hy:qN x y)(h0:y.k=2->0<=y.a)(a:World)(ha:a.heap.size<=B)(hx:Ext a w)(hB:B<=w.heap.size):
  Calls Tryz.prog 232 #[.pointer (some ⟨g,0,none⟩),y.v] w λe w'=>e=.returned (.bool (yZ x y))/\GOk B w' g (uY x y)/\Ext a w':=by
 obtain⟨ar,kr,ac,kc,vg,br,bc,pb,pa,pk,role,h⟩:=h;obtain⟨ag,kg,rfl⟩:=h.gr.form;refine(a5s y w h (λhk=>⟨h0 hk,by have:=(hy hk).1;have:=h0 hk;omega⟩) n8 ng a ha hx hB).mono ?_;rintro e w' ⟨he,h2,h3⟩;obtain⟨ag',kg',role',h2⟩:=h2;rw[b4y hy h0] at h2;exact⟨he,⟨_,_,_,_,_,_,_,_,_,_,_,h2⟩,h3⟩
theorem GAt.gtail[Inhabited uN]{n cap:Nat}{v':Value}(h:GAt B w g x ar kr ac kc (.slice (some ⟨gb,go,none⟩) n cap) br bc pb pa pk role)(hv:Grw w B v' G)(ho:v'.ownBlock=some gb):
  GOk B (w.setCell ⟨g,8,none⟩ v') g { x with gray:=G }:=by
 have far:∀q,q<w.heap.size->role q≠0->(w.setCell ⟨g,8,none⟩ v').heap[q]?=w.heap[q]?:=λq hq hn=>Below.heap_setCell _ _ _ _ (λe=>hn (by rw[e];exact h.sp.g))
 have rw2:=h.rw.same (w':=w.setCell ⟨g,8,none⟩ v') (by simp [World.setCell]) (λhl=>far br (h.rw.nr hl).1.1 (by rw[h.sp.r hl];omega)) (λhl=>far bc (h.rw.nc hl).1.1 (by rw[h.sp.c hl];omega)) (λq hq hl=>far (pb q) (h.rw.pl q hq hl).2.1.1 (by rw[h.sp.p q hq hl];omega));have r4:role gb=4:=h.sp.y gb rfl;refine⟨_,_,_,_,_,_,_,_,_,_,_,⟨h.bx.set8 _,h.nf.set _ _,h.lo,h.ha,h.hc,⟨rw2.r,rw2.s,rw2.p7,rw2.p,rw2.pl,rw2.nr,rw2.nc,rw2.d,rw2.dp,rw2.kp⟩,hv.block (λq hq=>?_),⟨h.sp.g,h.sp.r,h.sp.c,λq hq=>?_,h.sp.p⟩,h.kl,h.pr.of (λq hq h1=>far q hq (by rw[h1];omega)) (λ_ _ h=>h),λhk=>(h.cc hk).block rfl (far bc (h.cc hk).nf.1 (by rw[(h.cc hk).ro];omega)) (by simp [World.setCell])⟩⟩
 ·refine far q ?_ ?_
  ·exact(hv.lt q hq).2
  ·rw[ho] at hq;injection hq with hq;rw[<-hq,r4];omega
 ·rw[ho] at hq;injection hq with hq;rw[<-hq];exact r4
theorem Grw.tail1{g:Int}(h:Grw w B (.slice (some ⟨gb,go,none⟩) (G.length+1) 1) (g::G)):Grw w B (.slice (some ⟨gb,go,none⟩) G.length 0) G:=by
 rcases h with⟨_,e⟩ | ⟨gb',go',cap',cur,e,hb,hg,hn,hs,ht⟩
 ·cases e
 ·simp only [Value.slice.injEq,Option.some.injEq,Addr.mk.injEq] at e;obtain⟨⟨rfl,rfl,_⟩,_,rfl⟩:=e;have hn2:G.length+1<=1:=hn;have:G=[]:=List.eq_nil_of_length_eq_zero (by omega);subst this;exact .inr ⟨gb,go,0,cur,rfl,hb,hg,by simp,by omega,by simp⟩
def a3x(w:World)(b:Nat)(p:Pr):World:=(((((w.setCell ⟨b,0,none⟩ (.int .i64 p.key.k)).setCell ⟨b,1,none⟩ (.int .i64 p.key.n)).setCell ⟨b,2,none⟩ (.int .i64 p.key.a)).setCell ⟨b,3,none⟩ (.int .i64 p.val.k)).setCell ⟨b,4,none⟩ (.int .i64 p.val.n)).setCell ⟨b,5,none⟩ (.int .i64 p.val.a)
theorem c5h(w:World)(b:Nat)(p:Pr)(v0 v1 v2 v3 v4 v5:Value)(h0:w.cell? ⟨b,0,none⟩=some v0)(h1:w.cell? ⟨b,1,none⟩=some v1)(h2:w.cell? ⟨b,2,none⟩=some v2)(h3:w.cell? ⟨b,3,none⟩=some v3)(h4:w.cell? ⟨b,4,none⟩=some v4)(h5:w.cell? ⟨b,5,none⟩=some v5):tL (a3x w b p) b 0 p:=by
 unfold a3x;refine⟨?_,?_,?_,?_,?_,?_⟩
 ·iterate 5 rw[uC _ (.inr (by omega))]
  exact dQ h0
 ·iterate 4 rw[uC _ (.inr (by omega))]
  refine dQ (u:=v1) ?_;rw[uC _ (.inr (by omega))];exact h1
 ·iterate 3 rw[uC _ (.inr (by omega))]
  refine dQ (u:=v2) ?_
  iterate 2 rw[uC _ (.inr (by omega))]
  exact h2
 ·iterate 2 rw[uC _ (.inr (by omega))]
  refine dQ (u:=v3) ?_
  iterate 3 rw[uC _ (.inr (by omega))]
  exact h3
 ·rw[uC _ (.inr (by omega))];refine dQ (u:=v4) ?_
  iterate 4 rw[uC _ (.inr (by omega))]
  exact h4
 ·refine dQ (u:=v5) ?_
  iterate 5 rw[uC _ (.inr (by omega))]
  exact h5
theorem c2c{a:World}{b:Nat}(p:Pr)(h:Ext a w)(hb:a.heap.size<=b):Ext a (a3x w b p):=by
 unfold a3x;exact(((((h.setCell (p:=⟨b,0,none⟩) hb _).setCell (p:=⟨b,1,none⟩) hb _).setCell (p:=⟨b,2,none⟩) hb _).setCell (p:=⟨b,3,none⟩) hb _).setCell (p:=⟨b,4,none⟩) hb _).setCell (p:=⟨b,5,none⟩) hb _
theorem b1u(w:World)(n:Nat)(p:Pr)(t:TypeId):Ext w (a3x ((w.drewN n).alloc (.cells #[.int .i64 0,.int .i64 0,.int .i64 0,.int .i64 0,.int .i64 0,.int .i64 0] t)) w.heap.size p)/\tL (a3x ((w.drewN n).alloc (.cells #[.int .i64 0,.int .i64 0,.int .i64 0,.int .i64 0,.int .i64 0,.int .i64 0] t)) w.heap.size p) w.heap.size 0 p:=
 ⟨c2c p (((Ext.refl w).drewN n).alloc _) (Nat.le_refl _),c5h _ _ p _ _ _ _ _ _ (a0q w n _ t 0) (a0q w n _ t 1) (a0q w n _ t 2) (a0q w n _ t 3) (a0q w n _ t 4) (a0q w n _ t 5)⟩
theorem b6r[Inhabited uN](B g:Nat)(x:Hp)(w:World)(h:GOk B w g x)(s:Snd x)(hp:x.phase=2)(a:World)(ha:a.heap.size<=B)(hx:Ext a w)(i:Nat)(G:List Int)(hg:x.gray=(i:Int)::G)(hin:i<x.cells.length)(k:Nat)(hk:x.sub=(k:Int))(hkl:k<(x.c i).prs.length):
  Calls Tryz.prog 188 #[.pointer (some ⟨g,0,none⟩)] w λe w'=>e=.returned (.tuple #[])/\GOk B w' g { uY (uY x ((x.c i).p k).key) ((x.c i).p k).val with sub:=(k:Int)+1 }/\Ext a w':=by
 obtain⟨ar,kr,ac,kc,vg,br,bc,pb,pa,pk,role,h⟩:=h;obtain⟨ag,kg,rfl⟩:=h.gr.form;have H:=uU h;have hn:0<x.cells.length:=by omega
 have c4:=h.bx.2.2.2.2.1;have c7:=h.bx.2.2.2.2.2.2.2.1;have c8:=h.bx.2.2.2.2.2.2.2.2.1;obtain⟨gb,go,hag,hg0,_⟩:=h.gr.at 0 (by rw[hg];simp);have eg:x.gray[0]'(by rw[hg];simp)=(i:Int):=by simp [hg]
 rw[eg] at hg0;simp only [Nat.add_zero] at hg0;rw[h.hc hn] at c4;rw[hag] at c8;rw[hk] at c7;have p7:=h.rw.p7 i hin;rw[(h.rw.pl i hin (h.rw.pw hin (by omega))).1] at p7;obtain⟨q0,q1,q2,q3,q4,q5⟩:=h.rw.p i hin k hkl;have lg:x.gray.length=G.length+1:=by rw[hg];rfl
 rw[lg] at c8;have hgw:g<w.heap.size:=uL c4;have lo:=h.lo;have n8:=s.ok.n8;have gl8:G.length<=8000:=by have:=s.r1.gray;omega
 have p2:=s.ok.p200 i hin;have S:=uU s;have HG:=uU (s.good_pair (.inr hp) i k hin hkl);have f7:=h.nf.2 7
 have K0:=uU (show((x.c i).p k).key.k=2->0<=((x.c i).p k).key.a/\((x.c i).p k).key.a<x.cells.length from λhk=>by
  have h1:=(((s.r4.2 i hin).2 k hkl).2 (λd=>by have:=d.1;omega)).1.1;unfold uK at h1;omega)
 have K1:=uU (show((x.c i).p k).val.k=2->0<=((x.c i).p k).val.a/\((x.c i).p k).val.a<x.cells.length from λhk=>by
  have h1:=(((s.r4.2 i hin).2 k hkl).2 (λd=>by have:=d.1;omega)).2.1;unfold uK at h1;omega)
 have N4:=uU (show({ uY x ((x.c i).p k).key with sub:=(k:Int)+1 }:Hp).cells.length<=8000/\({ uY x ((x.c i).p k).key with sub:=(k:Int)+1 }:Hp).gray.length<=8000/\qN { uY x ((x.c i).p k).key with sub:=(k:Int)+1 } ((x.c i).p k).val from by
  have s2:=s.shdW _ HG.1;have e:=(a0b x ((x.c i).p k).key).2.1;have g2:=s2.r1.gray;have u:=a4k x _ HG.1;refine⟨?_,?_,?_⟩
  ·show(uY x ((x.c i).p k).key).cells.length<=8000;omega
  ·show(uY x ((x.c i).p k).key).gray.length<=8000;omega
  ·exact HG.2.keep (z:={ uY x ((x.c i).p k).key with sub:=(k:Int)+1 }) e u)
 have i0:(0:Int)<=(i:Int):=by omega
 have i1:(i:Int)<(x.cells.length:Int):=by omega
 have k0:(0:Int)<=(k:Int):=by omega
 have k1:(k:Int)<((x.c i).prs.length:Int):=by omega
 have g1:(0:Int)<(G.length:Int)+1:=by omega
 have GR:=uU (show x.gray.length<=8000 by have:=s.r1.gray;omega);have zn:=λn j=>a0q w n #[.int .i64 0,.int .i64 0,.int .i64 0,.int .i64 0,.int .i64 0,.int .i64 0] 154 j
 have zf:=λn j=>a3h w n #[.int .i64 0,.int .i64 0,.int .i64 0,.int .i64 0,.int .i64 0,.int .i64 0] 154 j
 have zo:=λn o b j (h:b<w.heap.size)=>a3q w n o b j h
 have hbc:bc<w.heap.size:=uL p7;have hpb:pb i<w.heap.size:=uL q0;clear h eg hg hk lg hag s;go_enter Tryz.func188,Tryz.ntmps188;go_wp2_with fail;go_quiet (fail);go_wp2_with fail
 go_region
 all_goals
  obtain⟨W2,hW2⟩:∃W,W=a3x ((w.drewN (nq+1)).alloc (.cells #[.int .i64 0,.int .i64 0,.int .i64 0,.int .i64 0,.int .i64 0,.int .i64 0] 154)) w.heap.size ((x.c i).p k):=⟨_,rfl⟩;have PB:=b1u w (nq+1) ((x.c i).p k) 154;rw[<-hW2] at PB;unfold a3x at hW2;rw[<-hW2];clear hW2 zn zf zo q0 q1 q2 q3 q4 q5;obtain⟨X2,y0,y1,y2,y3,y4,y5⟩:=PB;have d7:=X2.keep c7;have hgW:g<W2.heap.size:=uL d7;have f7b:W2.frozen? ⟨g,7,none⟩=false:=((cZ X2).2 g 7 hgw).trans f7;clear c4 c7 c8 p7 hg0 f7
  have H3:=uU (show GAt B (W2.setCell ⟨g,7,none⟩ (iv ((k:Int)+1))) g { x with sub:=(k:Int)+1 } ar kr ac kc (.slice ag x.gray.length kg) br bc pb pa pk role from
   (H.ext X2).boxed (x':={ x with sub:=(k:Int)+1 }) (uX.setCell (S:=λq=>q=g) (uX.refl _ W2) (p:=⟨g,7,none⟩) rfl _) ((H.ext X2).nf.set _ _) rfl rfl rfl ((H.ext X2).bx.set7 _))
  have X3:=uU ((hx.trans X2).setCell (p:=⟨g,7,none⟩) (show a.heap.size<=g by omega) (iv ((k:Int)+1)));have BX:=uU (show w.heap.size<W2.heap.size from uL y0);have Y3:=uU (show(W2.setCell ⟨g,7,none⟩ (iv ((k:Int)+1))).cell? ⟨w.heap.size,3,none⟩=some (iv ((x.c i).p k).val.k) from(uC _ (.inl (by omega))).trans y3);have Y4:=uU (show(W2.setCell ⟨g,7,none⟩ (iv ((k:Int)+1))).cell? ⟨w.heap.size,4,none⟩=some (iv ((x.c i).p k).val.n) from(uC _ (.inl (by omega))).trans y4);have Y5:=uU (show(W2.setCell ⟨g,7,none⟩ (iv ((k:Int)+1))).cell? ⟨w.heap.size,5,none⟩=some (iv ((x.c i).p k).val.a) from(uC _ (.inl (by omega))).trans y5)
  have GB:=uU (show ∀b o n,ag=some ⟨b,o,n⟩->b≠w.heap.size from λb o n e e2=>by
   have:=H.gr.lt b (by rw[e];rfl);omega)
  go_wp2_with fail;refine(b1m ((x.c i).p k).key _ H3 (λhk=>uH K0 hk) n8 GR a ha X3 ?_).mono ?_
  ·have:=X2.size;simp [World.setCell];omega
  rintro e w3 ⟨rfl,h3,x3,fr⟩;obtain⟨ag3,kg3,role3,h3⟩:=uH h3;have fb:w3.heap[w.heap.size]?=(W2.setCell ⟨g,7,none⟩ (iv ((k:Int)+1))).heap[w.heap.size]?:=uH fr w.heap.size (by have:=uH BX;simpa [World.setCell] using this) (by omega) (by omega) GB;have z3:=(World.cell?_of_block (a:=⟨w.heap.size,3,none⟩) fb).trans Y3;have z4:=(World.cell?_of_block (a:=⟨w.heap.size,4,none⟩) fb).trans Y4;have z5:=(World.cell?_of_block (a:=⟨w.heap.size,5,none⟩) fb).trans Y5
  have H4:=uU (show GOk B w3 g { uY x ((x.c i).p k).key with sub:=(k:Int)+1 } by
   rw[b4y (x:={ x with sub:=(k:Int)+1 }) HG.1 (λhk=>(uH K0 hk).1),b1t] at h3;exact⟨_,_,_,_,_,_,_,_,_,_,_,h3⟩)
  have X4:=uU x3;clear h3 x3 fr fb H3 Y3 Y4 Y5 y0 y1 y2 y3 y4 y5 d7 f7b X3;go_wp2_with fail;refine(a8q B g { uY x ((x.c i).p k).key with sub:=(k:Int)+1 } ((x.c i).p k).val _ H4 N4.1 N4.2.1 N4.2.2 (λhk=>(K1 hk).1) a ha X4 ?_).mono ?_
  ·have h1:=H4.box.2.2.2.2;omega
  rintro e w5 ⟨rfl,h5,x5⟩;rw[b1t] at h5;have H5:=uU h5;clear h5;go_wp2_with fail
  try simp only [Exit.inBlock,Exit.then]
  refine bodyPost_ret (results_none rfl _ _ _) rfl ?_;exact⟨rfl,H5,x5⟩
theorem c5i(y:Wd)(b:Nat)(w:World)(k2:(y.k == 2)=false):
  Calls Tryz.prog 138 #[.pointer (some ⟨b,0,none⟩),y.v] w λe w'=>e=.returned y.v/\Ext w w':=by
 go_enter Tryz.func138,Tryz.ntmps138;go_wp2_with fail;go_quiet (fail);go_wp2_with fail;refine bodyPost_ret (v:=y.v) (by simp [results,Tryz.results138,go_sem]) rfl ⟨rfl,?_⟩
 repeat (first | exact Ext.refl _ | refine Ext.drewN ?_ _ | refine Ext.alloc ?_ _ | refine Ext.setCell ?_ (by show w.heap.size<=w.heap.size+1;omega) _)
theorem c2d(b bc n kc i:Nat)(st:Int)(w:World)(c4:w.cell? ⟨b,4,none⟩=some (.slice (some ⟨bc,0,none⟩) n kc))(p0:w.cell? ⟨bc,i*8,none⟩=some (iv st))(hi:i<n)(s2:(st == 2)=false):
  Calls Tryz.prog 138 #[.pointer (some ⟨b,0,none⟩),.agg #[iv 2,iv 0,iv i]] w λe w'=>e=.returned (.agg #[iv 2,iv 0,iv i])/\Ext w w':=by
 have hb:b<w.heap.size:=uL c4;have hb':bc<w.heap.size:=uL p0;have i0:(0:Int)<=(i:Int):=by omega
 have i1:(i:Int)<(n:Int):=by omega
 go_enter Tryz.func138,Tryz.ntmps138;go_wp2_with fail;go_quiet (fail);go_wp2_with fail;refine bodyPost_ret (v:=.agg #[iv 2,iv 0,iv i]) (by simp [results,Tryz.results138,go_sem]) rfl ⟨rfl,?_⟩
 repeat (first | exact Ext.refl _ | refine Ext.drewN ?_ _ | refine Ext.alloc ?_ _ | refine Ext.setCell ?_ (by show w.heap.size<=w.heap.size+1;omega) _)
theorem b9f(b bc n kc i:Nat)(st tv:Int)(w:World)(c4:w.cell? ⟨b,4,none⟩=some (.slice (some ⟨bc,0,none⟩) n kc))(p0:w.cell? ⟨bc,i*8,none⟩=some (iv st))(p6:w.cell? ⟨bc,i*8+6,none⟩=some (iv tv))(hi:i<n)(s2:(st == 2)=true):
  Calls Tryz.prog 138 #[.pointer (some ⟨b,0,none⟩),.agg #[iv 2,iv 0,iv i]] w λe w'=>e=.returned (.agg #[iv 2,iv 0,iv tv])/\Ext w w':=by
 have hb:b<w.heap.size:=uL c4;have hb':bc<w.heap.size:=uL p0;have i0:(0:Int)<=(i:Int):=by omega
 have i1:(i:Int)<(n:Int):=by omega
 go_enter Tryz.func138,Tryz.ntmps138;go_wp2_with fail;go_quiet (fail);go_wp2_with fail
 go_region
 all_goals
  go_wp2_with fail;refine bodyPost_ret (v:=.agg #[iv 2,iv 0,iv tv]) (by simp [results,Tryz.results138,go_sem]) rfl ⟨rfl,?_⟩
  repeat (first | exact Ext.refl _ | refine Ext.drewN ?_ _ | refine Ext.drew ?_ | refine Ext.alloc ?_ _ | refine Ext.setCell ?_ (by show w.heap.size<=w.heap.size+1;omega) _)
theorem a4n[Inhabited uN](y:Wd)(w:World)(h:GAt B w g x ar kr ac kc vg br bc pb pa pk role)(hy:uK y x.cells.length):
  Calls Tryz.prog 138 #[.pointer (some ⟨g,0,none⟩),y.v] w λe w'=>e=.returned (qJ x y).v/\Ext w w':=by
 cases q:(y.k == 2)
 ·have e:qJ x y=y:=by
   unfold qJ;rw[if_neg];intro h;simp [h.1] at q
  rw[e];exact c5i y g w q
 ·have hk:y.k=2:=by simpa using q
  obtain⟨k,n,a⟩:=y;simp only at hk;subst hk;unfold uK at hy;simp only at hy;obtain⟨i,rfl⟩:∃i:Nat,a=(i:Int):=⟨a.toNat,by omega⟩;obtain rfl:n=0:=by omega
  have hi:i<x.cells.length:=by omega
  have hn:0<x.cells.length:=by omega
  have c4:=h.bx.2.2.2.2.1;rw[h.hc hn] at c4;obtain⟨p0,_,_,_,_,_,p6⟩:=h.rw.s i hi;have ei:((i:Int)).toNat=i:=by omega
  cases q2:((x.c i).st == 2)
  ·have e:qJ x ⟨2,0,i⟩=⟨2,0,i⟩:=by
    unfold qJ;rw[if_neg];intro h;simp only [ei] at h;simp [h.2] at q2
   rw[e];exact c2d g bc _ kc i _ w c4 p0 hi q2
  ·have e:qJ x ⟨2,0,i⟩=⟨2,0,(x.c i).to⟩:=by
    unfold qJ;simp only [ei];rw[if_pos ⟨trivial,by simpa using q2⟩]
   rw[e];exact b9f g bc _ kc i _ _ w c4 p0 p6 hi q2
theorem GAt.setp[Inhabited uN](h:GAt B w g x ar kr ac kc vg br bc pb pa pk role)(i:Nat)(hi:i<x.cells.length)(k:Nat)(hk:k<(x.c i).prs.length)(p':Pr)(o:uX (λq=>q=pb i) w w')(nf:Nf1 (pb i) w')(hp:tL w' (pb i) (k*6) p')(ho:∀j,(j<k*6\/k*6+6<=j)->w'.cell? ⟨pb i,j,none⟩=w.cell? ⟨pb i,j,none⟩):
  GAt B w' g { x with cells:=x.cells.set i { x.c i with prs:=(x.c i).prs.set k p' } } ar kr ac kc vg br bc pb pa pk role:=by
 have hl0:0<(x.c i).prs.length:=by omega
 have ri:=h.sp.p i hi (h.rw.pw hi hl0);have far:∀q,q<w.heap.size->role q≠6+i->w'.heap[q]?=w.heap[q]?:=λq hq hr=>o.block q hq (λe=>hr (by rw[e];exact ri))
 have hn:0<x.cells.length:=by omega
 have hl:({ x with cells:=x.cells.set i { x.c i with prs:=(x.c i).prs.set k p' } }:Hp).cells.length=x.cells.length:=by simp
 have hc:=Hp.c_set x i { x.c i with prs:=(x.c i).prs.set k p' } hi;have hne:∀q,q≠i->(({ x with cells:=x.cells.set i { x.c i with prs:=(x.c i).prs.set k p' } }:Hp).c q)=x.c q:=λq e=>by rw[hc q,if_neg e]
 have hei:(({ x with cells:=x.cells.set i { x.c i with prs:=(x.c i).prs.set k p' } }:Hp).c i)={ x.c i with prs:=(x.c i).prs.set k p' }:=by rw[hc i,if_pos rfl]
 have hpl:∀q,(({ x with cells:=x.cells.set i { x.c i with prs:=(x.c i).prs.set k p' } }:Hp).c q).prs.length=(x.c q).prs.length:=λq=>by
  by_cases e:q=i
  ·rw[e,hei];simp
  ·rw[hne q e]
 have fg:=far g h.nf.1 (by rw[h.sp.g];omega);have fc:=far bc (h.rw.nc hn).1.1 (by rw[h.sp.c hn];omega);have pf:∀q,q<x.cells.length->q≠i->0<pk q->w'.heap[pb q]?=w.heap[pb q]?:=λq hq hqi hl=>far (pb q) (h.rw.pl q hq hl).2.1.1 (by rw[h.sp.p q hq hl];omega)
 refine⟨?_,hY h.nf fg o.size,h.lo,h.ha,λ_=>h.hc hn,⟨λj hj=>?_,λq hq=>?_,λq hq=>?_,λq hq j hj=>?_,λq hq hlq=>?_,λhr=>⟨hY (h.rw.nr hr).1 (far br (h.rw.nr hr).1.1 (by rw[h.sp.r hr];omega)) o.size,(h.rw.nr hr).2⟩,λ_=>⟨hY (h.rw.nc hn).1 fc o.size,(h.rw.nc hn).2⟩,λ_=>h.rw.d hn,λq q' hq hq' hne h1 h2=>?_,λq hq=>?_⟩,h.gr.block (λq hq=>far q (h.gr.lt q hq).2 (by rw[h.sp.y q hq];omega)),⟨h.sp.g,h.sp.r,λ_=>h.sp.c hn,h.sp.y,λq hq hlq=>?_⟩,by rw[hl];exact h.kl,h.pr.of (λq hq h1=>far q hq (by rw[h1];omega)) (λ_ _ h=>h),λhk=>(h.cc hk).block rfl (far bc (h.cc hk).nf.1 (by rw[(h.cc hk).ro];omega)) o.size⟩
 ·rw[hl];exact(h.bx.block fg)
 ·exact(h.rw.r j hj).of λm _=>World.cell?_of_block (a:=⟨br,_,none⟩) (far br (h.rw.nr (by have:j<x.regs.length:=hj;omega)).1.1 (by rw[h.sp.r (by have:j<x.regs.length:=hj;omega)];omega))
 ·rw[hl] at hq;have key:S7 w' bc (q*8) (x.c q):=(h.rw.s q hq).of λm _=>World.cell?_of_block (a:=⟨bc,_,none⟩) fc
  by_cases e:q=i
  ·subst e;rw[hei];exact key
  ·rw[hne q e];exact key
 ·rw[hl] at hq;rw[hpl q,World.cell?_of_block (a:=⟨bc,_,none⟩) fc];exact h.rw.p7 q hq
 ·rw[hl] at hq;rw[hpl q] at hj;by_cases e:q=i
  ·subst e;rw[hei];by_cases ej:j=k
   ·subst ej;have:({ x.c q with prs:=(x.c q).prs.set j p' }:Cl).p j=p':=by simp [Cl.p,hj]
    rw[this];exact hp
   ·have:({ x.c q with prs:=(x.c q).prs.set k p' }:Cl).p j=(x.c q).p j:=by
     have hkj:k≠j:=λe=>ej e.symm
     simp [Cl.p,List.getElem?_set_ne hkj]
    rw[this];exact(h.rw.p q hq j hj).of λm hm=>ho _ (by omega)
  ·rw[hne q e];exact(h.rw.p q hq j hj).of λm _=>World.cell?_of_block (a:=⟨pb q,_,none⟩) (pf q hq e (h.rw.pw hq (by omega)))
 ·rw[hl] at hq;obtain⟨a1,a2,a3⟩:=h.rw.pl q hq hlq;by_cases e:q=i
  ·subst e;exact⟨a1,b6f a2 nf hp ho,a3⟩
  ·exact⟨a1,a0f a2 (pf q hq e hlq) o.size,a3⟩
 ·rw[hl] at hq hq';exact h.rw.dp q q' hq hq' hne h1 h2
 ·rw[hl] at hq;rw[hpl q];exact h.rw.kp q hq
 ·rw[hl] at hq;exact h.sp.p q hq hlq
theorem b1v(x:Hp)(k:Nat)(hk:k<x.cells.length)(h0:∀q,q<k->(x.c q).st≠0)(h1:(x.c k).st=0):cD x=k:=by
 obtain⟨_,a,b⟩:=a0z x;rcases Nat.lt_trichotomy (cD x) k with e | e | e
 ·exact absurd (b (by omega)) (h0 _ e)
 ·exact e
 ·exact absurd h1 (a k e)
theorem b9g(x:Hp)(h0:∀q,q<x.cells.length->(x.c q).st≠0):cD x=x.cells.length:=by
 obtain⟨a,_,b⟩:=a0z x;rcases Nat.lt_or_ge (cD x) x.cells.length with e | e
 ·exact absurd (b e) (h0 _ e)
 ·omega
theorem b1w[Inhabited uN](h:GAt B w g x ar kr ac kc vg br bc pb pa pk role)(n8:x.cells.length<=8000):
  Calls Tryz.prog 233 #[.pointer (some ⟨g,0,none⟩)] w λe w'=>e=.returned (.int .i64 (cD x))/\Ext w w':=by
 have H:=uU h;have c4:=h.bx.2.2.2.2.1;have hgw:g<w.heap.size:=uL c4;clear h;go_enter Tryz.func233,Tryz.ntmps233;go_wp2_with fail;go_loopw [10] (λi wr=>∃k:Nat,k<=x.cells.length/\i=.int .i64 k/\Hid (∀q,q<k->(x.c q).st≠0)/\Ext w wr) (λi _=>x.cells.length-(intOf i).toNat)
 case atStart=>exact⟨0,Nat.zero_le _,rfl,(λq hq=>by omega),Ext.refl _⟩
 case round=>
  obtain⟨k,hk,rfl,h0,hxr⟩:=hrel;by_cases hlt:k<x.cells.length
  ·have hn:0<x.cells.length:=by omega
   have Hr:=uU (H.ext hxr);obtain⟨p0,p1,p2,p3,p4,p5,p6⟩:=Hr.rw.s k hlt;have p7:=Hr.rw.p7 k hlt;have hbc:bc<wr.heap.size:=uL p0;obtain rfl:ac=some ⟨bc,0,none⟩:=H.hc hn;have k0:(0:Int)<=(k:Int):=by omega
   have k1:(k:Int)<(x.cells.length:Int):=by omega
   clear c4;cases q:((x.c k).st == 0)
   ·have Q:=uU (show ∀q,q<k+1->(x.c q).st≠0 from λq hq=>by
     by_cases e:q=k
     ·rw[e];simpa using ‹((x.c k).st == 0)=false›
     ·exact h0 q (by omega))
    go_wp2_with fail;go_roundw
    case rel=>exact⟨k+1,by omega,by go_num,Q,hxr.alloc _⟩
    case measure=>simp [intOf];omega
   ·have Q:=uU (b1v x k hlt h0 (by simpa using q));go_wp2_with fail;go_ret;exact⟨by rw[uH Q];rfl,hxr.alloc _⟩
  ·have Q:=uU (show cD x=x.cells.length from b9g x (λq hq=>uH h0 q (by omega)));have hk2:k=x.cells.length:=by omega
   subst hk2;have d4:=hxr.keep c4;clear c4;go_wp2_with fail;go_ret;exact⟨by rw[uH Q];rfl,hxr⟩
end Go.Proofs.YtddkhnclmeikfaaGreat
