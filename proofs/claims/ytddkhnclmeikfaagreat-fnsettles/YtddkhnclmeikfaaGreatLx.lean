import Derived.Test.YtddkhnclmeikfaaGreatLq
set_option maxRecDepth 100000
set_option maxHeartbeats 4000000
namespace Go.Proofs.YtddkhnclmeikfaaGreat
open Go.RowKit
attribute [local go_sem ↓] Go.wp_at_zero Go.wp_at_succ
variable{w:World}{B g kr kc br bc b gb go:Nat}{x:Hp}{ar ac:Option Addr}{pb pk role:Nat->Nat}{pa:Nat->Option Addr}{vg:Value}{G:List Int}
theorem b4d(x:Hp)(y:Wd)(v:Int):uY { x with sub:=v } y={ uY x y with sub:=v }:=by
 have e:∀i,cC { x with sub:=v } i={ cC x i with sub:=v }:=λi=>by
  have hb:qD { x with sub:=v } i=qD x i:=rfl;unfold cC;rw[hb]
  split <;> rfl
 unfold uY
 split
 ·exact e _
 ·rfl
theorem b0c[Inhabited uZ](B g:Nat)(x:Hp)(y:Wd)(w:World)(h:GOk B w g x)(n8:x.cells.length<=8000)(ng:x.gray.length<=8000)(hy:qN x y)(h0:y.k=2->0<=y.a)(a:World)(ha:a.heap.size<=B)(hx:Ext a w)(hB:B<=w.heap.size):
  Calls Tryz.prog 232 #[.pointer (some ⟨g,0,none⟩),y.v] w λe w'=>e=.returned (.bool (yE x y))/\GOk B w' g (uY x y)/\Ext a w':=by
 obtain⟨ar,kr,ac,kc,vg,br,bc,pb,pa,pk,role,h⟩:=h;obtain⟨ag,kg,rfl⟩:=h.gr.form;refine(a6y y w h (λhk=>⟨h0 hk,by have:=(hy hk).1;have:=h0 hk;omega⟩) n8 ng a ha hx hB).mono ?_;rintro e w' ⟨he,h2,h3⟩;obtain⟨ag',kg',role',h2⟩:=h2;rw[b7c hy h0] at h2;exact⟨he,⟨_,_,_,_,_,_,_,_,_,_,_,h2⟩,h3⟩
theorem GAt.gtail[Inhabited uZ]{n cap:Nat}{v':Value}(h:GAt B w g x ar kr ac kc (.slice (some ⟨gb,go,none⟩) n cap) br bc pb pa pk role)(hv:Grw w B v' G)(ho:v'.ownBlock=some gb):
  GOk B (w.setCell ⟨g,8,none⟩ v') g { x with gray:=G }:=by
 have far:∀q,q<w.heap.size->role q≠0->(w.setCell ⟨g,8,none⟩ v').heap[q]?=w.heap[q]?:=λq hq hn=>Below.heap_setCell _ _ _ _ (λe=>hn (by rw[e];exact h.sp.g))
 have rw2:=h.rw.same (w':=w.setCell ⟨g,8,none⟩ v') (by simp [World.setCell]) (λhl=>far br (h.rw.nr hl).1.1 (by rw[h.sp.r hl];omega)) (λhl=>far bc (h.rw.nc hl).1.1 (by rw[h.sp.c hl];omega)) (λq hq hl=>far (pb q) (h.rw.pl q hq hl).2.1.1 (by rw[h.sp.p q hq hl];omega));have r4:role gb=4:=h.sp.y gb rfl;refine⟨_,_,_,_,_,_,_,_,_,_,_,⟨h.bx.set8 _,h.nf.set _ _,h.lo,h.ha,h.hc,⟨rw2.r,rw2.s,rw2.p7,rw2.p,rw2.pl,rw2.nr,rw2.nc,rw2.d,rw2.dp,rw2.kp⟩,hv.block (λq hq=>?_),⟨h.sp.g,h.sp.r,h.sp.c,λq hq=>?_,h.sp.p⟩,h.kl,h.pr.of (λq hq h1=>far q hq (by rw[h1];omega)) (λ_ _ h=>h),λhk=>(h.cc hk).block rfl (far bc (h.cc hk).nf.1 (by rw[(h.cc hk).ro];omega)) (by simp [World.setCell])⟩⟩
 ·refine far q ?_ ?_
  ·exact(hv.lt q hq).2
  ·rw[ho] at hq;injection hq with hq;rw[<-hq,r4];omega
 ·rw[ho] at hq;injection hq with hq;rw[<-hq];exact r4
theorem Grw.tail1{g:Int}(h:Grw w B (.slice (some ⟨gb,go,none⟩) (G.length+1) 1) (g::G)):Grw w B (.slice (some ⟨gb,go,none⟩) G.length 0) G:=by
 rcases h with⟨_,e⟩ | ⟨gb',go',cap',cur,e,hb,hg,hn,hs,ht⟩
 ·cases e
 ·simp only [Value.slice.injEq,Option.some.injEq,Addr.mk.injEq] at e;obtain⟨⟨rfl,rfl,_⟩,_,rfl⟩:=e;have hn2:G.length+1<=1:=hn;have:G=[]:=List.eq_nil_of_length_eq_zero (by omega);subst this;exact .inr ⟨gb,go,0,cur,rfl,hb,hg,by simp,by omega,by simp⟩
def a6p(w:World)(b:Nat)(p:Pr):World:=(((((w.setCell ⟨b,0,none⟩ (.int .i64 p.key.k)).setCell ⟨b,1,none⟩ (.int .i64 p.key.n)).setCell ⟨b,2,none⟩ (.int .i64 p.key.a)).setCell ⟨b,3,none⟩ (.int .i64 p.val.k)).setCell ⟨b,4,none⟩ (.int .i64 p.val.n)).setCell ⟨b,5,none⟩ (.int .i64 p.val.a)
theorem c8r(w:World)(b:Nat)(p:Pr)(v0 v1 v2 v3 v4 v5:Value)(h0:w.cell? ⟨b,0,none⟩=some v0)(h1:w.cell? ⟨b,1,none⟩=some v1)(h2:w.cell? ⟨b,2,none⟩=some v2)(h3:w.cell? ⟨b,3,none⟩=some v3)(h4:w.cell? ⟨b,4,none⟩=some v4)(h5:w.cell? ⟨b,5,none⟩=some v5):zW (a6p w b p) b 0 p:=by
 unfold a6p;refine⟨?_,?_,?_,?_,?_,?_⟩
 ·iterate 5 rw[uC _ (.inr (by omega))]
  exact dZ h0
 ·iterate 4 rw[uC _ (.inr (by omega))]
  refine dZ (u:=v1) ?_;rw[uC _ (.inr (by omega))];exact h1
 ·iterate 3 rw[uC _ (.inr (by omega))]
  refine dZ (u:=v2) ?_
  iterate 2 rw[uC _ (.inr (by omega))]
  exact h2
 ·iterate 2 rw[uC _ (.inr (by omega))]
  refine dZ (u:=v3) ?_
  iterate 3 rw[uC _ (.inr (by omega))]
  exact h3
 ·rw[uC _ (.inr (by omega))];refine dZ (u:=v4) ?_
  iterate 4 rw[uC _ (.inr (by omega))]
  exact h4
 ·refine dZ (u:=v5) ?_
  iterate 5 rw[uC _ (.inr (by omega))]
  exact h5
theorem c5w{a:World}(p:Pr)(h:Ext a w)(hb:a.heap.size<=b):Ext a (a6p w b p):=by
 unfold a6p;exact(((((h.setCell (p:=⟨b,0,none⟩) hb _).setCell (p:=⟨b,1,none⟩) hb _).setCell (p:=⟨b,2,none⟩) hb _).setCell (p:=⟨b,3,none⟩) hb _).setCell (p:=⟨b,4,none⟩) hb _).setCell (p:=⟨b,5,none⟩) hb _
theorem b9r(w:World)(n:Nat)(p:Pr)(t:TypeId):Ext w (a6p ((w.drewN n).alloc (.cells #[.int .i64 0,.int .i64 0,.int .i64 0,.int .i64 0,.int .i64 0,.int .i64 0] t)) w.heap.size p)/\zW (a6p ((w.drewN n).alloc (.cells #[.int .i64 0,.int .i64 0,.int .i64 0,.int .i64 0,.int .i64 0,.int .i64 0] t)) w.heap.size p) w.heap.size 0 p:=
 ⟨c5w p (((Ext.refl w).drewN n).alloc _) (Nat.le_refl _),c8r _ _ p _ _ _ _ _ _ (a0u w n _ t 0) (a0u w n _ t 1) (a0u w n _ t 2) (a0u w n _ t 3) (a0u w n _ t 4) (a0u w n _ t 5)⟩
theorem b9s[Inhabited uZ](B g:Nat)(x:Hp)(w:World)(h:GOk B w g x)(s:Snd x)(hp:x.phase=2)(a:World)(ha:a.heap.size<=B)(hx:Ext a w)(i:Nat)(G:List Int)(hg:x.gray=(i:Int)::G)(hin:i<x.cells.length)(k:Nat)(hk:x.sub=(k:Int))(hkl:k<(x.c i).prs.length):
  Calls Tryz.prog 188 #[.pointer (some ⟨g,0,none⟩)] w λe w'=>e=.returned (.tuple #[])/\GOk B w' g { uY (uY x ((x.c i).p k).key) ((x.c i).p k).val with sub:=(k:Int)+1 }/\Ext a w':=by
 obtain⟨ar,kr,ac,kc,vg,br,bc,pb,pa,pk,role,h⟩:=h;obtain⟨ag,kg,rfl⟩:=h.gr.form;have H:=uU h;have hn:0<x.cells.length:=by omega
 have c4:=h.bx.2.2.2.2.1;have c7:=h.bx.2.2.2.2.2.2.2.1;have c8:=h.bx.2.2.2.2.2.2.2.2.1;obtain⟨gb,go,hag,hg0,_⟩:=h.gr.at 0 (by rw[hg];simp);have eg:x.gray[0]'(by rw[hg];simp)=(i:Int):=by simp [hg]
 rw[eg] at hg0;simp only [Nat.add_zero] at hg0;rw[h.hc hn] at c4;rw[hag] at c8;rw[hk] at c7;have p7:=h.rw.p7 i hin;rw[(h.rw.pl i hin (h.rw.pw hin (by omega))).1] at p7;obtain⟨q0,q1,q2,q3,q4,q5⟩:=h.rw.p i hin k hkl;have lg:x.gray.length=G.length+1:=by rw[hg];rfl
 rw[lg] at c8;have hgw:g<w.heap.size:=uL c4;have lo:=h.lo;have n8:=s.ok.n8;have gl8:G.length<=8000:=by have:=s.r1.gray;omega
 have p2:=s.ok.p200 i hin;have S:=uU s;have HG:=uU (s.good_pair (.inr hp) i k hin hkl);have f7:=h.nf.2 7
 have K0:=uU (show((x.c i).p k).key.k=2->0<=((x.c i).p k).key.a/\((x.c i).p k).key.a<x.cells.length from λhk=>by
  have h1:=(((s.r4.2 i hin).2 k hkl).2 (λd=>by have:=d.1;omega)).1.1;unfold uJ at h1;omega)
 have K1:=uU (show((x.c i).p k).val.k=2->0<=((x.c i).p k).val.a/\((x.c i).p k).val.a<x.cells.length from λhk=>by
  have h1:=(((s.r4.2 i hin).2 k hkl).2 (λd=>by have:=d.1;omega)).2.1;unfold uJ at h1;omega)
 have N4:=uU (show({ uY x ((x.c i).p k).key with sub:=(k:Int)+1 }:Hp).cells.length<=8000/\({ uY x ((x.c i).p k).key with sub:=(k:Int)+1 }:Hp).gray.length<=8000/\qN { uY x ((x.c i).p k).key with sub:=(k:Int)+1 } ((x.c i).p k).val from by
  have s2:=s.shdW _ HG.1;have e:=(a1k x ((x.c i).p k).key).2.1;have g2:=s2.r1.gray;have u:=a7x x _ HG.1;refine⟨?_,?_,?_⟩
  ·show(uY x ((x.c i).p k).key).cells.length<=8000;omega
  ·show(uY x ((x.c i).p k).key).gray.length<=8000;omega
  ·exact HG.2.keep (z:={ uY x ((x.c i).p k).key with sub:=(k:Int)+1 }) e u)
 have i0:(0:Int)<=(i:Int):=by omega
 have i1:(i:Int)<(x.cells.length:Int):=by omega
 have k0:(0:Int)<=(k:Int):=by omega
 have k1:(k:Int)<((x.c i).prs.length:Int):=by omega
 have g1:(0:Int)<(G.length:Int)+1:=by omega
 have GR:=uU (show x.gray.length<=8000 by have:=s.r1.gray;omega);have zn:=λn j=>a0u w n #[.int .i64 0,.int .i64 0,.int .i64 0,.int .i64 0,.int .i64 0,.int .i64 0] 154 j
 have zf:=λn j=>a5f w n #[.int .i64 0,.int .i64 0,.int .i64 0,.int .i64 0,.int .i64 0,.int .i64 0] 154 j
 have zo:=λn o b j (h:b<w.heap.size)=>a6b w n o b j h
 have hbc:bc<w.heap.size:=uL p7;have hpb:pb i<w.heap.size:=uL q0;clear h eg hg hk lg hag s;go_enter Tryz.func188,Tryz.ntmps188;go_wp2_with fail;go_quiet (fail);go_wp2_with fail
 go_region
 all_goals
  obtain⟨W2,hW2⟩:∃W,W=a6p ((w.drewN (nq+1)).alloc (.cells #[.int .i64 0,.int .i64 0,.int .i64 0,.int .i64 0,.int .i64 0,.int .i64 0] 154)) w.heap.size ((x.c i).p k):=⟨_,rfl⟩;have PB:=b9r w (nq+1) ((x.c i).p k) 154;rw[<-hW2] at PB;unfold a6p at hW2;rw[<-hW2];clear hW2 zn zf zo q0 q1 q2 q3 q4 q5;obtain⟨X2,y0,y1,y2,y3,y4,y5⟩:=PB;have d7:=X2.keep c7;have hgW:g<W2.heap.size:=uL d7;have f7b:W2.frozen? ⟨g,7,none⟩=false:=((dH X2).2 g 7 hgw).trans f7;clear c4 c7 c8 p7 hg0 f7
  have H3:=uU (show GAt B (W2.setCell ⟨g,7,none⟩ (iv ((k:Int)+1))) g { x with sub:=(k:Int)+1 } ar kr ac kc (.slice ag x.gray.length kg) br bc pb pa pk role from
   (H.ext X2).boxed (x':={ x with sub:=(k:Int)+1 }) (uX.setCell (S:=λq=>q=g) (uX.refl _ W2) (p:=⟨g,7,none⟩) rfl _) ((H.ext X2).nf.set _ _) rfl rfl rfl ((H.ext X2).bx.set7 _))
  have X3:=uU ((hx.trans X2).setCell (p:=⟨g,7,none⟩) (show a.heap.size<=g by omega) (iv ((k:Int)+1)));have BX:=uU (show w.heap.size<W2.heap.size from uL y0);have Y3:=uU (show(W2.setCell ⟨g,7,none⟩ (iv ((k:Int)+1))).cell? ⟨w.heap.size,3,none⟩=some (iv ((x.c i).p k).val.k) from(uC _ (.inl (by omega))).trans y3);have Y4:=uU (show(W2.setCell ⟨g,7,none⟩ (iv ((k:Int)+1))).cell? ⟨w.heap.size,4,none⟩=some (iv ((x.c i).p k).val.n) from(uC _ (.inl (by omega))).trans y4);have Y5:=uU (show(W2.setCell ⟨g,7,none⟩ (iv ((k:Int)+1))).cell? ⟨w.heap.size,5,none⟩=some (iv ((x.c i).p k).val.a) from(uC _ (.inl (by omega))).trans y5)
  have GB:=uU (show ∀b o n,ag=some ⟨b,o,n⟩->b≠w.heap.size from λb o n e e2=>by
   have:=H.gr.lt b (by rw[e];rfl);omega)
  go_wp2_with fail;refine(b3e ((x.c i).p k).key _ H3 (λhk=>uH K0 hk) n8 GR a ha X3 ?_).mono ?_
  ·have:=X2.size;simp [World.setCell];omega
  rintro e w3 ⟨rfl,h3,x3,fr⟩;obtain⟨ag3,kg3,role3,h3⟩:=uH h3;have fb:w3.heap[w.heap.size]?=(W2.setCell ⟨g,7,none⟩ (iv ((k:Int)+1))).heap[w.heap.size]?:=uH fr w.heap.size (by have:=uH BX;simpa [World.setCell] using this) (by omega) (by omega) GB;have z3:=(World.cell?_of_block (a:=⟨w.heap.size,3,none⟩) fb).trans Y3;have z4:=(World.cell?_of_block (a:=⟨w.heap.size,4,none⟩) fb).trans Y4;have z5:=(World.cell?_of_block (a:=⟨w.heap.size,5,none⟩) fb).trans Y5
  have H4:=uU (show GOk B w3 g { uY x ((x.c i).p k).key with sub:=(k:Int)+1 } by
   rw[b7c (x:={ x with sub:=(k:Int)+1 }) HG.1 (λhk=>(uH K0 hk).1),b4d] at h3;exact⟨_,_,_,_,_,_,_,_,_,_,_,h3⟩)
  have X4:=uU x3;clear h3 x3 fr fb H3 Y3 Y4 Y5 y0 y1 y2 y3 y4 y5 d7 f7b X3;go_wp2_with fail;refine(b0c B g { uY x ((x.c i).p k).key with sub:=(k:Int)+1 } ((x.c i).p k).val _ H4 N4.1 N4.2.1 N4.2.2 (λhk=>(K1 hk).1) a ha X4 ?_).mono ?_
  ·have h1:=H4.box.2.2.2.2;omega
  rintro e w5 ⟨rfl,h5,x5⟩;rw[b4d] at h5;have H5:=uU h5;clear h5;go_wp2_with fail
  try simp only [Exit.inBlock,Exit.then]
  refine bodyPost_ret (results_none rfl _ _ _) rfl ?_;exact⟨rfl,H5,x5⟩
theorem GAt.setp[Inhabited uZ]{w':World}(h:GAt B w g x ar kr ac kc vg br bc pb pa pk role)(i:Nat)(hi:i<x.cells.length)(k:Nat)(hk:k<(x.c i).prs.length)(p':Pr)(o:uX (λq=>q=pb i) w w')(nf:Nf1 (pb i) w')(hp:zW w' (pb i) (k*6) p')(ho:∀j,(j<k*6\/k*6+6<=j)->w'.cell? ⟨pb i,j,none⟩=w.cell? ⟨pb i,j,none⟩):
  GAt B w' g { x with cells:=x.cells.set i { x.c i with prs:=(x.c i).prs.set k p' } } ar kr ac kc vg br bc pb pa pk role:=by
 have hl0:0<(x.c i).prs.length:=by omega
 have ri:=h.sp.p i hi (h.rw.pw hi hl0);have far:∀q,q<w.heap.size->role q≠6+i->w'.heap[q]?=w.heap[q]?:=λq hq hr=>o.block q hq (λe=>hr (by rw[e];exact ri))
 have hn:0<x.cells.length:=by omega
 have hl:({ x with cells:=x.cells.set i { x.c i with prs:=(x.c i).prs.set k p' } }:Hp).cells.length=x.cells.length:=by simp
 have hc:=Hp.c_set x i { x.c i with prs:=(x.c i).prs.set k p' } hi;have hne:∀q,q≠i->(({ x with cells:=x.cells.set i { x.c i with prs:=(x.c i).prs.set k p' } }:Hp).c q)=x.c q:=λq e=>by rw[hc q,if_neg e]
 have hei:(({ x with cells:=x.cells.set i { x.c i with prs:=(x.c i).prs.set k p' } }:Hp).c i)={ x.c i with prs:=(x.c i).prs.set k p' }:=by rw[hc i,if_pos rfl]
 have hpl:∀q,(({ x with cells:=x.cells.set i { x.c i with prs:=(x.c i).prs.set k p' } }:Hp).c q).prs.length=(x.c q).prs.length:=λq=>by
  by_cases e:q=i
  ·rw[e,hei];simp
  ·rw[hne q e]
 have fg:=far g h.nf.1 (by rw[h.sp.g];omega);have fc:=far bc (h.rw.nc hn).1.1 (by rw[h.sp.c hn];omega);have pf:∀q,q<x.cells.length->q≠i->0<pk q->w'.heap[pb q]?=w.heap[pb q]?:=λq hq hqi hl=>far (pb q) (h.rw.pl q hq hl).2.1.1 (by rw[h.sp.p q hq hl];omega)
 refine⟨?_,cU h.nf fg o.size,h.lo,h.ha,λ_=>h.hc hn,⟨λj hj=>?_,λq hq=>?_,λq hq=>?_,λq hq j hj=>?_,λq hq hlq=>?_,λhr=>⟨cU (h.rw.nr hr).1 (far br (h.rw.nr hr).1.1 (by rw[h.sp.r hr];omega)) o.size,(h.rw.nr hr).2⟩,λ_=>⟨cU (h.rw.nc hn).1 fc o.size,(h.rw.nc hn).2⟩,λ_=>h.rw.d hn,λq q' hq hq' hne h1 h2=>?_,λq hq=>?_⟩,h.gr.block (λq hq=>far q (h.gr.lt q hq).2 (by rw[h.sp.y q hq];omega)),⟨h.sp.g,h.sp.r,λ_=>h.sp.c hn,h.sp.y,λq hq hlq=>?_⟩,by rw[hl];exact h.kl,h.pr.of (λq hq h1=>far q hq (by rw[h1];omega)) (λ_ _ h=>h),λhk=>(h.cc hk).block rfl (far bc (h.cc hk).nf.1 (by rw[(h.cc hk).ro];omega)) o.size⟩
 ·rw[hl];exact(h.bx.block fg)
 ·exact(h.rw.r j hj).of λm _=>World.cell?_of_block (a:=⟨br,_,none⟩) (far br (h.rw.nr (by have:j<x.regs.length:=hj;omega)).1.1 (by rw[h.sp.r (by have:j<x.regs.length:=hj;omega)];omega))
 ·rw[hl] at hq;have key:S7 w' bc (q*8) (x.c q):=(h.rw.s q hq).of λm _=>World.cell?_of_block (a:=⟨bc,_,none⟩) fc
  by_cases e:q=i
  ·subst e;rw[hei];exact key
  ·rw[hne q e];exact key
 ·rw[hl] at hq;rw[hpl q,World.cell?_of_block (a:=⟨bc,_,none⟩) fc];exact h.rw.p7 q hq
 ·rw[hl] at hq;rw[hpl q] at hj;by_cases e:q=i
  ·subst e;rw[hei];by_cases ej:j=k
   ·subst ej;have:({ x.c q with prs:=(x.c q).prs.set j p' }:Cl).p j=p':=by simp [Cl.p,hj]
    rw[this];exact hp
   ·have:({ x.c q with prs:=(x.c q).prs.set k p' }:Cl).p j=(x.c q).p j:=by
     have hkj:k≠j:=λe=>ej e.symm
     simp [Cl.p,List.getElem?_set_ne hkj]
    rw[this];exact(h.rw.p q hq j hj).of λm hm=>ho _ (by omega)
  ·rw[hne q e];exact(h.rw.p q hq j hj).of λm _=>World.cell?_of_block (a:=⟨pb q,_,none⟩) (pf q hq e (h.rw.pw hq (by omega)))
 ·rw[hl] at hq;obtain⟨a1,a2,a3⟩:=h.rw.pl q hq hlq;by_cases e:q=i
  ·subst e;exact⟨a1,c7e a2 nf hp ho,a3⟩
  ·exact⟨a1,a0f a2 (pf q hq e hlq) o.size,a3⟩
 ·rw[hl] at hq hq';exact h.rw.dp q q' hq hq' hne h1 h2
 ·rw[hl] at hq;rw[hpl q];exact h.rw.kp q hq
 ·rw[hl] at hq;exact h.sp.p q hq hlq
theorem c2b(x:Hp)(k:Nat)(hk:k<x.cells.length)(h0:∀q,q<k->(x.c q).st≠0)(h1:(x.c k).st=0):cJ x=k:=by
 obtain⟨_,a,b⟩:=a1m x;rcases Nat.lt_trichotomy (cJ x) k with e | e | e
 ·exact absurd (b (by omega)) (h0 _ e)
 ·exact e
 ·exact absurd h1 (a k e)
theorem c2c(x:Hp)(h0:∀q,q<x.cells.length->(x.c q).st≠0):cJ x=x.cells.length:=by
 obtain⟨a,_,b⟩:=a1m x;rcases Nat.lt_or_ge (cJ x) x.cells.length with e | e
 ·exact absurd (b e) (h0 _ e)
 ·omega
theorem b4e[Inhabited uZ](h:GAt B w g x ar kr ac kc vg br bc pb pa pk role)(n8:x.cells.length<=8000):
  Calls Tryz.prog 233 #[.pointer (some ⟨g,0,none⟩)] w λe w'=>e=.returned (.int .i64 (cJ x))/\Ext w w':=by
 have H:=uU h;have c4:=h.bx.2.2.2.2.1;have hgw:g<w.heap.size:=uL c4;clear h;go_enter Tryz.func233,Tryz.ntmps233;go_wp2_with fail;go_loopw [10] (λi wr=>∃k:Nat,k<=x.cells.length/\i=.int .i64 k/\Hid (∀q,q<k->(x.c q).st≠0)/\Ext w wr) (λi _=>x.cells.length-(intOf i).toNat)
 case atStart=>exact⟨0,Nat.zero_le _,rfl,(λq hq=>by omega),Ext.refl _⟩
 case round=>
  obtain⟨k,hk,rfl,h0,hxr⟩:=hrel;by_cases hlt:k<x.cells.length
  ·have hn:0<x.cells.length:=by omega
   have Hr:=uU (H.ext hxr);obtain⟨p0,p1,p2,p3,p4,p5,p6⟩:=Hr.rw.s k hlt;have p7:=Hr.rw.p7 k hlt;have hbc:bc<wr.heap.size:=uL p0;obtain rfl:ac=some ⟨bc,0,none⟩:=H.hc hn;have k0:(0:Int)<=(k:Int):=by omega
   have k1:(k:Int)<(x.cells.length:Int):=by omega
   clear c4;cases q:((x.c k).st == 0)
   ·have Q:=uU (show ∀q,q<k+1->(x.c q).st≠0 from λq hq=>by
     by_cases e:q=k
     ·rw[e];simpa using ‹((x.c k).st == 0)=false›
     ·exact h0 q (by omega))
    go_wp2_with fail;go_roundw
    case rel=>exact⟨k+1,by omega,by go_num,Q,hxr.alloc _⟩
    case measure=>simp [intOf];omega
   ·have Q:=uU (c2b x k hlt h0 (by simpa using q));go_wp2_with fail;go_ret;exact⟨by rw[uH Q];rfl,hxr.alloc _⟩
  ·have Q:=uU (show cJ x=x.cells.length from c2c x (λq hq=>uH h0 q (by omega)));have hk2:k=x.cells.length:=by omega
   subst hk2;have d4:=hxr.keep c4;clear c4;go_wp2_with fail;go_ret;exact⟨by rw[uH Q];rfl,hxr⟩
def tC(w:World)(b o:Nat)(c:Cl)(v:Value):World:=(((((((w.setCell ⟨b,o,none⟩ (iv c.st)).setCell ⟨b,o+1,none⟩ (iv c.kind)).setCell ⟨b,o+2,none⟩ (iv c.weak)).setCell ⟨b,o+3,none⟩ (iv c.last)).setCell ⟨b,o+4,none⟩ (iv c.born)).setCell ⟨b,o+5,none⟩ (iv c.color)).setCell ⟨b,o+6,none⟩ (iv c.to)).setCell ⟨b,o+7,none⟩ v
theorem c2d(w:World)(b o:Nat)(c:Cl)(v:Value):(tC w b o c v).drew=tC w.drew b o c v:=by
 have key:∀(W:World) (p:Addr) (u:Value),(W.setCell p u).drew=W.drew.setCell p u:=λ_ _ _=>rfl
 unfold tC;simp only [key]
theorem a2x(w:World)(b o:Nat)(c:Cl)(v:Value):uX (λq=>q=b) w (tC w b o c v):=
 uX.setCell (S:=λq=>q=b) (uX.setCell (S:=λq=>q=b) (uX.setCell (S:=λq=>q=b) (uX.setCell (S:=λq=>q=b) (uX.setCell (S:=λq=>q=b) (uX.setCell (S:=λq=>q=b) (uX.setCell (S:=λq=>q=b) (uX.setCell (S:=λq=>q=b) (uX.refl _ w) (p:=⟨b,o,none⟩) rfl _) (p:=⟨b,o+1,none⟩) rfl _) (p:=⟨b,o+2,none⟩) rfl _) (p:=⟨b,o+3,none⟩) rfl _) (p:=⟨b,o+4,none⟩) rfl _) (p:=⟨b,o+5,none⟩) rfl _) (p:=⟨b,o+6,none⟩) rfl _) (p:=⟨b,o+7,none⟩) rfl _
theorem b4f(h:Nf1 b w)(o:Nat)(c:Cl)(v:Value):Nf1 b (tC w b o c v):=(((((((h.set _ _).set _ _).set _ _).set _ _).set _ _).set _ _).set _ _).set _ _
theorem a7i(w:World)(b o:Nat)(c:Cl)(v:Value)(k:Nat)(hk:k<o\/o+8<=k):(tC w b o c v).cell? ⟨b,k,none⟩=w.cell? ⟨b,k,none⟩:=by
 unfold tC
 iterate 8 rw[uC _ (.inr (by omega))]
theorem b4g(w:World)(b o:Nat)(c d:Cl)(v u:Value)(h:S7 w b o d)(h7:w.cell? ⟨b,o+7,none⟩=some u):S7 (tC w b o c v) b o c/\(tC w b o c v).cell? ⟨b,o+7,none⟩=some v:=by
 obtain⟨a0,a1,a2,a3,a4,a5,a6⟩:=h;unfold tC;refine⟨⟨?_,?_,?_,?_,?_,?_,?_⟩,?_⟩
 ·iterate 7 rw[uC _ (.inr (by omega))]
  exact dZ a0
 ·iterate 6 rw[uC _ (.inr (by omega))]
  exact dZ ((uC _ (.inr (by omega))).trans a1)
 ·iterate 5 rw[uC _ (.inr (by omega))]
  refine dZ (u:=iv d.weak) ?_
  iterate 2 rw[uC _ (.inr (by omega))]
  exact a2
 ·iterate 4 rw[uC _ (.inr (by omega))]
  refine dZ (u:=iv d.last) ?_
  iterate 3 rw[uC _ (.inr (by omega))]
  exact a3
 ·iterate 3 rw[uC _ (.inr (by omega))]
  refine dZ (u:=iv d.born) ?_
  iterate 4 rw[uC _ (.inr (by omega))]
  exact a4
 ·iterate 2 rw[uC _ (.inr (by omega))]
  refine dZ (u:=iv d.color) ?_
  iterate 5 rw[uC _ (.inr (by omega))]
  exact a5
 ·rw[uC _ (.inr (by omega))];refine dZ (u:=iv d.to) ?_
  iterate 6 rw[uC _ (.inr (by omega))]
  exact a6
 ·refine dZ (u:=u) ?_
  iterate 7 rw[uC _ (.inr (by omega))]
  exact h7
def b7e(x:Hp)(t f:Nat):Hp:={ x with cells:=(x.cells.set t (x.c f)).set f (mvC t) }
theorem c2e[Inhabited uZ](h:GAt B w g x ar kr ac kc vg br bc pb pa pk role)(t f:Nat)(htf:t≠f)(ht:t<x.cells.length)(hf:f<x.cells.length):
  ∃pb' pa' pk' role',GAt B (a3g (tC w bc (t*8) (x.c f) (.slice (pa f) (x.c f).prs.length (pk f))) bc (f*8) 2 t) g (b7e x t f) ar kr ac kc vg br bc pb' pa' pk' role':=by
 have hn:0<x.cells.length:=by omega
 obtain⟨k1,k2⟩:=b4g w bc (t*8) (x.c f) (x.c t) (.slice (pa f) (x.c f).prs.length (pk f)) _ (h.rw.s t ht) (h.rw.p7 t ht);have o1:=a7i w bc (t*8) (x.c f) (.slice (pa f) (x.c f).prs.length (pk f));have s2:S7 (tC w bc (t*8) (x.c f) (.slice (pa f) (x.c f).prs.length (pk f))) bc (f*8) (x.c f):=(h.rw.s f hf).of λj hj=>o1 _ (by omega)
 have s7:=(o1 (f*8+7) (by omega)).trans (h.rw.p7 f hf);obtain⟨m1,m2⟩:=b1a (tC w bc (t*8) (x.c f) (.slice (pa f) (x.c f).prs.length (pk f))) bc (f*8) 2 t _ _ s2 s7;have o2:=a8w (tC w bc (t*8) (x.c f) (.slice (pa f) (x.c f).prs.length (pk f))) bc (f*8) 2 t;refine h.move t f htf ht hf ((a2x _ _ _ _ _).trans (a3x _ _ _ _ _)) (b7d (b4f (h.rw.nc hn).1 _ _ _) _ _ _) ?_ ?_ m1 m2 (λq hq h1 h2 k hk=>?_) (λj hj=>by rw[o2 _ (by omega),o1 _ (by omega)])
 ·exact k1.of λj hj=>o2 _ (by omega)
 ·rw[o2 _ (by omega)];exact k2
 ·rw[o2 _ (by omega),o1 _ (by omega)]
theorem mvd_c(x:Hp)(t f:Nat)(ht:t<x.cells.length)(hf:f<x.cells.length)(q:Nat):(b7e x t f).c q=if q=f then mvC t else if q=t then x.c f else x.c q:=by
 have h1:=Hp.c_set { x with cells:=x.cells.set t (x.c f) } f (mvC t) (by simpa using hf) q;have h2:=Hp.c_set x t (x.c f) ht q;have e:b7e x t f={ ({ x with cells:=x.cells.set t (x.c f) }:Hp) with cells:=({ x with cells:=x.cells.set t (x.c f) }:Hp).cells.set f (mvC t) }:=rfl;rw[e,h1];by_cases e1:q=f
 ·rw[if_pos e1,if_pos e1]
 ·rw[if_neg e1,if_neg e1];exact h2
def yQ(x:Hp)(t f j:Nat):Hp:={ b7e x t f with regs:=(x.regs.take j).map (mvW t f)++x.regs.drop j }
theorem res_mv(x:Hp)(t f j:Nat)(ht:t<x.cells.length)(hf:f<x.cells.length)(h0:(x.c t).st=0)(r:Wd)(hr:cZ x r False):zU (yQ x t f j) r=mvW t f r:=by
 have hc:∀q,(yQ x t f j).c q=(b7e x t f).c q:=λ_=>rfl
 unfold zU mvW;rw[hc,mvd_c x t f ht hf];by_cases hk:r.k=2
 ·have h1:(x.c r.a.toNat).st=1:=by
   rcases hr.2 hk with h | h
   ·exact h.2.elim
   ·exact h.1
  have ha:0<=r.a:=by have:=hr.1;unfold uJ at this;omega
  by_cases e:r.a.toNat=f
  ·have ea:r.a=(f:Int):=by omega
   rw[if_pos e,if_pos ⟨hk,rfl⟩,if_pos ⟨hk,ea⟩];rfl
  ·have ea:¬r.a=(f:Int):=by omega
   have et:¬r.a.toNat=t:=λe2=>by rw[e2] at h1;omega
   rw[if_neg e,if_neg et,if_neg (λh=>by have:=h.2;omega),if_neg (λh=>ea h.2)]
 ·rw[if_neg (λh=>hk h.1),if_neg (λh=>hk h.1)]
theorem mvdR_at(x:Hp)(t f j:Nat)(hj:j<x.regs.length):∃h:j<(yQ x t f j).regs.length,(yQ x t f j).regs[j]=x.regs[j]:=by
 have hl:j<(yQ x t f j).regs.length:=by simp [yQ];omega
 refine⟨hl,?_⟩;simp only [yQ];rw[List.getElem_append_right (by simp;omega)];simp [Nat.min_eq_left (Nat.le_of_lt hj)]
theorem c5x(x:Hp)(t f j:Nat)(hj:j<x.regs.length):({ yQ x t f j with regs:=(yQ x t f j).regs.set j (mvW t f x.regs[j]) }:Hp)=yQ x t f (j+1):=by
 have:(yQ x t f j).regs.set j (mvW t f x.regs[j])=(yQ x t f (j+1)).regs:=by
  simp only [yQ];rw[List.set_append_right _ _ (by simp;omega),List.take_succ_eq_append_getElem hj,List.map_append];simp only [List.length_map,List.length_take,Nat.min_eq_left (Nat.le_of_lt hj),Nat.sub_self];have hd:=List.drop_eq_getElem_cons hj;rw[hd];simp only [List.set_cons_zero,List.map_cons,List.map_nil,List.append_assoc,List.singleton_append]
 rw[this];rfl
theorem c5y(x:Hp)(t f:Nat):yQ x t f 0=b7e x t f:=by simp [yQ,b7e]
theorem c8s(x:Hp)(t f:Nat):yQ x t f x.regs.length=a6n x t f:=by simp [yQ,b7e,a6n]
def dV(w:World)(b o:Nat)(y:Wd):World:=((w.setCell ⟨b,o,none⟩ (iv y.k)).setCell ⟨b,o+1,none⟩ (iv y.n)).setCell ⟨b,o+2,none⟩ (iv y.a)
theorem b0d(w:World)(b o:Nat)(y z:Wd)(h:yC w b o z):yC (dV w b o y) b o y:=by
 obtain⟨h0,h1,h2⟩:=h;unfold dV;refine⟨?_,?_,?_⟩
 ·iterate 2 rw[uC _ (.inr (by omega))]
  exact dZ h0
 ·rw[uC _ (.inr (by omega))];exact dZ ((uC _ (.inr (by omega))).trans h1)
 ·refine dZ (u:=iv z.a) ?_
  iterate 2 rw[uC _ (.inr (by omega))]
  exact h2
theorem a0e(w:World)(b o:Nat)(y:Wd):uX (λq=>q=b) w (dV w b o y):=
 uX.setCell (S:=λq=>q=b) (uX.setCell (S:=λq=>q=b) (uX.setCell (S:=λq=>q=b) (uX.refl _ w) (p:=⟨b,o,none⟩) rfl _) (p:=⟨b,o+1,none⟩) rfl _) (p:=⟨b,o+2,none⟩) rfl _
theorem b9t(h:Nf1 b w)(o:Nat)(y:Wd):Nf1 b (dV w b o y):=((h.set _ _).set _ _).set _ _
theorem a0z(w:World)(b o:Nat)(y:Wd)(k:Nat)(hk:k<o\/o+3<=k):(dV w b o y).cell? ⟨b,k,none⟩=w.cell? ⟨b,k,none⟩:=by
 unfold dV
 iterate 3 rw[uC _ (.inr (by omega))]
theorem c2f[Inhabited uZ](B g:Nat)(x:Hp)(w:World)(h:GOk B w g x)(s:Snd x)(a:World)(ha:a.heap.size<=B)(hx:Ext a w):
  Calls Tryz.prog 190 #[.pointer (some ⟨g,0,none⟩)] w λe w'=>e=.returned (.tuple #[])/\GOk B w' g (unit4 x)/\Ext a w':=by
 obtain⟨ar,kr,ac,kc,vg,br,bc,pb,pa,pk,role,h⟩:=h;have H:=uU h;have n8:=s.ok.n8;have lo:=h.lo;have S:=uU s;have c4:=h.bx.2.2.2.2.1;have FT:=uU (a1m x);obtain⟨t,ht⟩:∃t,t=cJ x:=⟨_,rfl⟩;have HT:=uU ht;have EU:=uU (show unit4 x=if a2d x x.cells.length<=(t:Int) then zC x 5 0 else a6n x t (a2d x x.cells.length).toNat by unfold unit4;rw[<-ht]);have QF:=uU (b4e h n8);rw[<-ht] at QF FT;have hwr:wrap64 ((x.cells.length:Int)-1)=(x.cells.length:Int)-1:=a2h _ (by omega) (by omega);have LU:=uU (a4g x);have r0:0<x.regs.length:=by have:=s.r1.regs;omega
 have r16:x.regs.length<=16:=by have:=s.r1.regs;omega
 clear h s ht;go_enter Tryz.func190,Tryz.ntmps190;go_wp2_with fail;refine QF.mono ?_;rintro e w1 ⟨rfl,x1⟩;have H1:=uU (H.ext x1);have d4:=x1.keep c4;have hgw:g<w1.heap.size:=uL d4;have X1:=hx.trans x1;clear c4 QF H hx x1;go_wp2_with fail;go_loopw [3] (λfr wr=>∃m:Nat,m<=x.cells.length/\fr=.int .i64 ((m:Int)-1)/\Hid (∀q,m<=q->q<x.cells.length->(x.c q).st≠1)/\Ext w1 wr) (λfr _=>(intOf fr+1).toNat)
 case atStart=>exact⟨x.cells.length,Nat.le_refl _,rfl,(λq h1 h2=>by omega),Ext.refl _⟩
 case round=>
  obtain⟨m,hm,rfl,hno,hxr⟩:=hrel;cases m with
  | zero=>
   have e4:=hxr.keep d4;have tn:((t:Int)≥-1)=True:=by simp
   have LE:=uU (show a2d x x.cells.length = -1 by
    rcases uH LU x.cells.length with⟨e,_⟩ | ⟨f,_,hf,h1,_⟩
    ·exact e
    ·exact absurd h1 (hno f (Nat.zero_le _) hf))
   clear d4;have EF:=uU (show unit4 x=zC x 5 0 by rw[uH EU,if_pos (by rw[uH LE];omega)]);go_wp2_with fail;refine(a0y B g x 5 0 _ ⟨_,_,_,_,_,_,_,_,_,_,_,H1.ext hxr⟩ a ha (X1.trans hxr)).mono ?_;rintro e w3 ⟨rfl,h3,x3⟩;have H3:=uU h3;clear h3;go_wp2_with fail
   try simp only [Exit.inBlock,Exit.then]
   refine bodyPost_ret (results_none rfl _ _ _) rfl ?_;exact⟨rfl,by rw[uH EF];exact uH H3,x3⟩
  | succ f=>
   have hfn:f<x.cells.length:=by omega
   have hn:0<x.cells.length:=by omega
   have ef:(((f+1:Nat):Int)-1)=(f:Int):=by omega
   rw[ef];have e4:=hxr.keep d4;rw[H1.hc hn] at e4;have e0:=((H1.ext hxr).rw.s f hfn).1;have hgr:g<wr.heap.size:=uL e4;have hbc:bc<wr.heap.size:=uL e0;have f0:(0:Int)<=(f:Int):=by omega
   have f1:(f:Int)<(x.cells.length:Int):=by omega
   clear d4;cases q:((x.c f).st == 1)
   ·have qb:((x.c f).st != 1)=true:=by simpa using q
    have Q:=uU (show ∀q,f<=q->q<x.cells.length->(x.c q).st≠1 from λq h1 h2=>by
     by_cases e:q=f
     ·rw[e];simpa using ‹((x.c f).st == 1)=false›
     ·exact hno q (by omega) h2)
    go_wp2_with fail;go_roundw
    case rel=>exact⟨f,by omega,by go_num,Q,hxr⟩
    case measure=>simp [intOf]
   ·have qb:((x.c f).st != 1)=false:=by simpa using q
    have LE:=uU (show a2d x x.cells.length=(f:Int) by
     rcases uH LU x.cells.length with⟨_,h1⟩ | ⟨f',e,hf,h1,h2⟩
     ·exact absurd (by simpa using q) (h1 f hfn)
     ·rcases Nat.lt_trichotomy f' f with e2 | e2 | e2
      ·exact absurd (by simpa using q) (h2 f e2 hfn)
      ·rw[e,e2]
      ·exact absurd h1 (hno f' (by omega) hf))
    by_cases htf:(t:Int)≥(f:Int)
    ·have EF:=uU (show unit4 x=zC x 5 0 by rw[uH EU,if_pos (by rw[uH LE];omega)]);go_wp2_with fail;refine(a0y B g x 5 0 _ ⟨_,_,_,_,_,_,_,_,_,_,_,H1.ext hxr⟩ a ha (X1.trans hxr)).mono ?_;rintro e w3 ⟨rfl,h3,x3⟩;have H3:=uU h3;clear h3;go_wp2_with fail
     try simp only [Exit.inBlock,Exit.then]
     refine bodyPost_ret (results_none rfl _ _ _) rfl ?_;exact⟨rfl,by rw[uH EF];exact uH H3,x3⟩
    ·have EF:=uU (show unit4 x=a6n x t f by rw[uH EU,if_neg (by rw[uH LE];omega),uH LE];rfl);have HR:=uU (H1.ext hxr);have htn:t<x.cells.length:=by omega
     obtain⟨a0,a1,a2,a3,a4,a5,a6⟩:=HR.rw.s f hfn;have a7:=HR.rw.p7 f hfn;obtain⟨b0,b1,b2,b3,b4,b5,b6⟩:=HR.rw.s t htn;have b7:=HR.rw.p7 t htn;have fc:=(HR.rw.nc hn).1.2;have t0:(0:Int)<=(t:Int):=by omega
     have t1:(t:Int)<(x.cells.length:Int):=by omega
     have XR:=X1.trans hxr;have NGC:=uU (show ¬g=bc from λe=>by have h1:=HR.sp.g;have h2:=HR.sp.c hn;rw[e] at h1;omega);have ngc:¬g=bc:=uH NGC;have ncg:¬bc=g:=λe=>uH NGC e.symm
     have nof:¬f*8=t*8:=by omega
     clear e0 hxr H1 hno;go_wp2_with fail
     go_region
     all_goals
      obtain⟨W5,hW5⟩:∃W,W=(tC wr bc (t*8) (x.c f) (.slice (pa f) (x.c f).prs.length (pk f))).drew:=⟨_,rfl⟩;have W5E:=uU (show W5=tC wr.drew bc (t*8) (x.c f) (.slice (pa f) (x.c f).prs.length (pk f)) by rw[hW5,c2d]);have O5:=a7i wr.drew bc (t*8) (x.c f) (.slice (pa f) (x.c f).prs.length (pk f))
      have d4:W5.cell? ⟨g,4,none⟩=some (.slice (some ⟨bc,0,none⟩) x.cells.length kc):=by
       rw[uH W5E,World.cell?_of_block (a:=⟨g,4,none⟩) ((a2x wr.drew bc (t*8) (x.c f) _).block g (by simpa using hgr) (by omega))];exact e4
      have g3:W5.cell? ⟨g,3,none⟩=some (.slice (some ⟨br,0,none⟩) x.regs.length kr):=by
       rw[uH W5E,World.cell?_of_block (a:=⟨g,3,none⟩) ((a2x wr.drew bc (t*8) (x.c f) _).block g (by simpa using hgr) (by omega))];have:=HR.bx.2.2.2.1;rw[HR.ha r0] at this;exact this
      have d0:W5.cell? ⟨bc,f*8,none⟩=some (iv (x.c f).st):=by rw[uH W5E,O5 _ (by omega)];exact a0
      have d1:W5.cell? ⟨bc,f*8+1,none⟩=some (iv (x.c f).kind):=by rw[uH W5E,O5 _ (by omega)];exact a1
      have d2:W5.cell? ⟨bc,f*8+2,none⟩=some (iv (x.c f).weak):=by rw[uH W5E,O5 _ (by omega)];exact a2
      have d3:W5.cell? ⟨bc,f*8+3,none⟩=some (iv (x.c f).last):=by rw[uH W5E,O5 _ (by omega)];exact a3
      have dd4:W5.cell? ⟨bc,f*8+4,none⟩=some (iv (x.c f).born):=by rw[uH W5E,O5 _ (by omega)];exact a4
      have d5:W5.cell? ⟨bc,f*8+5,none⟩=some (iv (x.c f).color):=by rw[uH W5E,O5 _ (by omega)];exact a5
      have d6:W5.cell? ⟨bc,f*8+6,none⟩=some (iv (x.c f).to):=by rw[uH W5E,O5 _ (by omega)];exact a6
      have d7:W5.cell? ⟨bc,f*8+7,none⟩=some (.slice (pa f) (x.c f).prs.length (pk f)):=by rw[uH W5E,O5 _ (by omega)];exact a7
      have fc5:∀j,W5.frozen? ⟨bc,j,none⟩=false:=by rw[uH W5E];exact(b4f (w:=wr.drew) (cU (HR.rw.nc hn).1 rfl (by simp)) _ _ _).2
      have hg5:g<W5.heap.size:=uL d4;have hb5:bc<W5.heap.size:=uL d0;have X5:Ext a W5:=by rw[uH W5E];exact(a2x wr.drew bc (t*8) (x.c f) _).ext XR.drew (λq hq e=>by have:=(HR.rw.nc hn).2;omega)
      unfold tC at hW5;rw[<-hW5];clear hW5 O5 a0 a1 a2 a3 a4 a5 a6 a7 b0 b1 b2 b3 b4 b5 b6 b7 fc e4 hgr hbc XR q qb ef hm nof LE EU LU HT hwr hgw X1 n8 lo t0 f0;have FT0:=uU FT;have LTS:=uU (show t<x.cells.length/\f<x.cells.length/\t≠f by omega);clear FT htf htn hfn;have T0:=uU (show(x.c t).st=0 from FT0.2.2 LTS.1)
      have G6:=uU (show Hid (∃pb' pa' pk' role',GAt B (a3g W5 bc (f*8) 2 t) g (yQ x t f 0) ar kr ac kc vg br bc pb' pa' pk' role') by
       rw[c5y,uH W5E];exact c2e (HR.ext (Ext.refl wr).drew) t f LTS.2.2 LTS.1 LTS.2.1)
      have X6:Ext a (a3g W5 bc (f*8) 2 t):=(a3x W5 bc (f*8) 2 t).ext X5 (λq hq e=>by have:=(HR.rw.nc hn).2;omega);obtain⟨W6,hW6⟩:∃W,W=a3g W5 bc (f*8) 2 t:=⟨_,rfl⟩;rw[<-hW6] at G6 X6;unfold a3g at hW6;go_wp2_with fail;rw[<-hW6];clear hW6 d0 d1 d2 d3 d4 dd4 d5 d6 d7 fc5 hg5 hb5 g3 X5;go_loopw [59] (λi wr=>∃j:Nat,j<=x.regs.length/\i=.int .i64 j/\Hid (∃pb' pa' pk' role',GAt B wr g (yQ x t f j) ar kr ac kc vg br bc pb' pa' pk' role')/\Ext a wr) (λi _=>x.regs.length-(intOf i).toNat)
      case atStart=>exact⟨0,Nat.zero_le _,rfl,G6,X6⟩
      case round=>
       obtain⟨j,hj,rfl,hG,hxr⟩:=hrel;by_cases hlt:j<x.regs.length
       ·obtain⟨pb',pa',pk',role',hG⟩:=hG;obtain⟨hl,er⟩:=mvdR_at x t f j hlt;have RL:=uU (show(yQ x t f j).regs.length=x.regs.length by simp [yQ];omega);have CL:=uU (show(yQ x t f j).cells.length=x.cells.length by simp [yQ,b7e]);have HJ:=uU hG;have c3:=hG.bx.2.2.2.1;rw[hG.ha (by omega),uH RL] at c3;obtain⟨w0,w1,w2⟩:=hG.rw.r j hl;rw[er] at w0 w1 w2;have LD:=uU (S.r4.1 j hlt);have RS:=uU (res_mv x t f j LTS.1 LTS.2.1 T0 x.regs[j] LD);have fb:=(hG.rw.nr (by omega)).1.2;have hgr:g<wr.heap.size:=uL c3;have hbr:br<wr.heap.size:=uL w0;have hbB:=(hG.rw.nr (by omega)).2;have j0:(0:Int)<=(j:Int):=by omega
        have j1:(j:Int)<(x.regs.length:Int):=by omega
        clear hG er;obtain⟨rr,hrr⟩:∃r,r=mvW t f x.regs[j]:=⟨_,rfl⟩;have SU:=uU (c5x x t f j hlt);rw[<-hrr] at RS SU;clear hrr
        have FN:=uU (show ∀W,Ext wr W->Hid (∃pb' pa' pk' role',GAt B (dV W br (j*3) rr) g (yQ x t f (j+1)) ar kr ac kc vg br bc pb' pa' pk' role')/\Ext a (dV W br (j*3) rr) from λW xW=>by
         have g1:=HJ.ext xW;refine⟨⟨pb',pa',pk',role',?_⟩,(a0e W br (j*3) rr).ext (hxr.trans xW) (λq hq e=>by omega)⟩;rw[<-uH SU];exact g1.setr j hl rr (a0e _ _ _ _) (b9t (g1.rw.nr (by omega)).1 _ _) (b0d _ _ _ _ _ (g1.rw.r j hl)) (λm hm=>a0z _ _ _ _ m hm))
        unfold dV at FN;go_wp2_with fail;go_region_with (go_at_call 138;refine(a4w x.regs[j] _ (HJ.ext (Ext.refl wr).drew) (by rw[uH CL];exact LD.1)).mono ?_;rintro e w5 ⟨rfl,x5⟩;rw[uH RS];have xw5:=Ext.trans (Ext.refl wr).drew x5;have k3:=xw5.keep c3;have k0:=xw5.keep w0;have k1:=xw5.keep w1;have k2:=xw5.keep w2;have kf:=λm=>((dH xw5).2 br m hbr).trans (fb m);have XW:=uU xw5;clear x5 xw5)
        all_goals
         go_wp2_with fail;go_roundw
         case rel=>exact⟨j+1,by omega,by go_num,(FN w5 XW).1,(FN w5 XW).2⟩
         case measure=>simp [intOf];omega
       ·have je:j=x.regs.length:=by omega
        subst je;rw[c8s] at hG;go_wp2_with fail
        go_end0
        exact⟨rfl,by
         rw[uH EF];obtain⟨pb',pa',pk',role',hG⟩:=uH hG;exact⟨_,_,_,_,_,_,_,_,_,_,_,hG⟩,hxr⟩
end Go.Proofs.YtddkhnclmeikfaaGreat
