import Derived.Test.YtddkhnclmeikfaaGreatEn
set_option maxRecDepth 100000
set_option maxHeartbeats 1000000
namespace Go.Proofs.YtddkhnclmeikfaaGreat
open Go.RowKit
attribute [local go_sem ↓] Go.wp_at_zero Go.wp_at_succ
variable{x:Hp}{w0 w w' W W':World}{B g kr kc br bc qb n:Nat}{ar ac:Option Addr}{vg:Value}{pb pk role:Nat->Nat}{pa:Nat->Option Addr}
theorem c8s[p:Inhabited uQ](B g:Nat)(x:Hp)(a b c:Nat)(n:Int)(w:World)(h:GOk B w g x)(s:Snd x)(ha:a<16)(hc:c<=200)(hk:(x.r a).k=2)(v:World)(hv:v.heap.size<=B)(hx:Ext v w):
  Calls Tryz.prog 253 #[.pointer (some ⟨g,0,none⟩),yL 9 a b c n] w λe w'=>zQ B g x a b c n 9 v e w':=by
 obtain⟨p1,o1,g1⟩:=GOk.enter h (w0:=doW w 9 a b c n) (((Ext.refl w).alloc _).alloc _);obtain⟨W1,hW1⟩:∃W,W=doW w 9 a b c n:=⟨_,rfl⟩;have bx:=tL.new w 9 a b c n;have x1:Ext v (doW w 9 a b c n):=(hx.alloc _).alloc _;rw[<-hW1] at g1 bx x1;obtain⟨br,kr,hr⟩:=g1.B s.r1.B;have c3:=hr.c3;obtain⟨r0,r1,r2⟩:=hr.r a ha;have hgw:g<W1.heap.size:=uL c3;have hbw:br<W1.heap.size:=uL r0;have O1:=uU o1;have G1:=uU g1;have V0:=uU (show v.heap.size<=w.heap.size+1 by have:=hx.size;omega);have X1:=uU x1;obtain⟨t0,t1,t2,t3,t4,t5,t6,t7⟩:=bx;have hw1:w.heap.size<W1.heap.size:=uL t0;have j0:(0:Int)<=(a:Int):=by omega
 have j1:(a:Int)<16:=by omega
 have D:=uU hk;have q2b:((x.r a).k != 2)=false:=by simpa using hk
 obtain⟨en,ea,hi,st,nd⟩:=s.at a ha hk;obtain⟨i,hI⟩:∃i,i=x.at a:=⟨_,rfl⟩;have HI:=uU hI;rw[<-hI] at ea hi st nd;have EA:=uU ea;have S:=uU s;have i0:(0:Int)<=(i:Int):=by omega
 have i1:(i:Int)<(x.A.length:Int):=by omega
 clear hk ea hI s en;clear nd;clear h hr o1 g1 x1;go_enter Tryz.func253,Tryz.ntmps253;go_wp2_with fail;unfold doW at hW1;rw[<-hW1];clear hW1
 go_region
 obtain⟨W2,hW2⟩:∃W,W=(W1.alloc (.cells #[.int .i64 (x.r a).k,.int .i64 (x.r a).n,.int .i64 (x.r a).a] 152)).drew:=⟨_,rfl⟩;rw[<-hW2];have x12:Ext W1 W2:=by rw[hW2];exact((Ext.refl _).alloc _).drew
 have WB:yQ W2 W1.heap.size 0 (x.r a):=by rw[hW2];exact⟨by simp [go_sem],by simp [go_sem],by simp [go_sem]⟩
 obtain⟨y0,y1,y2⟩:=WB;have G2:=uU (G1.ext x12);have X2:=uU (X1.trans x12);have hy2:W1.heap.size<W2.heap.size:=uL y0;clear hW2 x12 c3 r0 r1 r2 t0 t1 t2 t3 t4 t5 t6 t7;obtain⟨t0,t1,t2,t3,t4,t5,t6,t7⟩:=G2.boxes O1;have hw2:w.heap.size<W2.heap.size:=uL t0;have hw2':w.heap.size+1<W2.heap.size:=uL t5;rw[uH EA] at y2;have QC:=uU (λ(W:World) (xW:Ext W2 W)=>c1u B g x a b c n W (G2.ext xW) S ha hc D v hv (X2.trans xW));go_wp2_with fail;refine(QC _ (Ext.refl W2)).mono ?_;rintro e w3 ⟨y,cd,nm,he,dr,g3,x3⟩;have e2:=uH he;subst e2;have DR:=uU dr;have G3:=uU g3;have X3:=uU x3;clear he g3 x3 dr QC;clear t0 t1 t2 t3 t4 t5 t6 t7 y0 y1 y2;obtain⟨u0,u1,u2,u3,u4,u5,u6,u7⟩:=G3.boxes O1;have hw3:w.heap.size+1<w3.heap.size:=uL u5;go_wp2_with fail;refine bodyPost_ret (v:=qU cd nm) (by simp [results,Tryz.results253,go_sem,u5,u6]) rfl ?_;exact⟨y,cd,nm,rfl,.inr ⟨D,DR⟩,GOk.done O1 G3 cd nm,dZ X3 V0 cd nm⟩
theorem l5do_9[p:Inhabited uQ](B g:Nat)(x:Hp)(a b c:Nat)(n:Int)(w:World)(h:GOk B w g x)(s:Snd x)(ok:qY 9 a b c n=true)(ha:a<16)(hc:c<=200)(v:World)(hv:v.heap.size<=B)(hx:Ext v w):
  Calls Tryz.prog 234 #[.pointer (some ⟨g,0,none⟩),yL 9 a b c n] w λe w'=>zQ B g x a b c n 9 v e w':=by
 obtain⟨p1,o1,g1⟩:=GOk.enter h (w0:=doW w 9 a b c n) (((Ext.refl w).alloc _).alloc _);have HG:=uU g1;have S:=uU s;have O1:=uU o1;have QA:=uU (λW=>a1g 9 a b c n W);rw[ok] at QA;have V0:=uU (show v.heap.size<=w.heap.size+1 by have:=hx.size;omega);have XD:=uU (show Ext v (doW w 9 a b c n) from(hx.alloc _).alloc _);have BX:=uU (tL.new w 9 a b c n);clear h s o1 g1;go_enter Tryz.func234,Tryz.ntmps234;go_wp2_with fail;refine(QA _).mono ?_;rintro e w1 ⟨rfl,x1⟩;have X1:=uU (XD.trans x1);have BX1:=uU (BX.ext x1);obtain⟨t0,t1,t2,t3,t4,t5,t6,t7⟩:=uH BX1;have hw1:w.heap.size+1<w1.heap.size:=uL t5;have hw0:w.heap.size<w1.heap.size:=uL t0;have G1:=uU (HG.ext x1)
 have QP:=uU (show Calls Tryz.prog 253 #[.pointer (some ⟨g,0,none⟩),yL 9 a b c n] w1 λe w'=>zQ B g x a b c n 9 v e w' from by
  by_cases hk:(x.r a).k=2
  ·exact c8s B g x a b c n w1 G1 S ha hc hk v hv X1
  ·exact(b5i B g x 9 a b c n w1 G1 S ha hk v X1).mono λe w2 hh=>⟨x,2,0,hh.1,.inl ⟨hk,rfl,rfl,rfl⟩,hh.2.1,hh.2.2⟩)
 clear x1 QA BX1 BX XD HG;go_wp2_with fail;refine QP.mono ?_;rintro e w3 ⟨y,cd,nm,he,dr,g3,x3⟩;have e2:=uH he;subst e2;have G3:=uU g3;have X3:=uU x3;clear he g3 x3 QP;obtain⟨u0,u1,u2,u3,u4,u5,u6,u7⟩:=G3.boxes O1;have hw3:w.heap.size+1<w3.heap.size:=uL u5;clear t0 t1 t2 t3 t4 t5 t6 t7;go_wp2_with fail;refine bodyPost_ret (v:=qU cd nm) (by simp [results,Tryz.results234,go_sem,u5,u6]) rfl ?_;exact⟨y,cd,nm,rfl,dr,GOk.done O1 G3 cd nm,dZ X3 V0 cd nm⟩
abbrev b0q(x:Hp)(t:Nat)(c':Cl):Hp:={ x with A:=a4t x t c' }
theorem newX_c(x:Hp)(t:Nat)(c':Cl)(ht:t<=x.A.length)(q:Nat):(b0q x t c').c q=if q=t then c' else x.c q:=c3d x (b0q x t c') t c' ht rfl q
theorem newX_lt(x:Hp)(t:Nat)(c':Cl)(ht:t<=x.A.length)(q:Nat)(hq:q<(b0q x t c').A.length):q=t\/(q<x.A.length/\q≠t):=by
 have:=a7i x t c';have hq:q<(a4t x t c').length:=hq;rw[this] at hq
 split at hq <;> omega
theorem S7.of2{b b' o:Nat}{c:Cl}(h:S7 w b o c)(e:∀j,j<7->w'.cell? ⟨b',o+j,none⟩=w.cell? ⟨b,o+j,none⟩):S7 w' b' o c:=by
 obtain⟨a0,a1,a2,a3,a4,a5,a6⟩:=h;exact⟨(e 0 (by omega)).trans a0,(e 1 (by omega)).trans a1,(e 2 (by omega)).trans a2,(e 3 (by omega)).trans a3,(e 4 (by omega)).trans a4,(e 5 (by omega)).trans a5,(e 6 (by omega)).trans a6⟩
theorem GAt.newc[Inhabited uQ](h:GAt B w g x ar kr ac kc vg br bc pb pa pk role)(r0:0<x.B.length)(t:Nat)(ht:t<=x.A.length)(c':Cl)(bc' kc' qb:Nat)(qa:Option Addr)(qk:Nat)(hs:w.heap.size<=w'.heap.size)
  (hbc:(bc'=bc/\0<kc)\/w.heap.size<=bc') (far:∀q,q<w.heap.size->q≠g->q≠bc'->w'.heap[q]?=w.heap[q]?) (nfg:Nf1 g w') (bx:dE w' g (b0q x t c') (.slice ar x.B.length kr) (.slice (some ⟨bc',0,none⟩) (a4t x t c').length kc') vg)
  (nfc:Nf1 bc' w') (cpc:∀j,j<kc'*8->∃v,w'.cell? ⟨bc',j,none⟩=some v) (hB:B<=bc') (hkl:(a4t x t c').length<=kc') (hst:S7 w' bc' (t*8) c') (h7t:w'.cell? ⟨bc',t*8+7,none⟩=some (.slice qa c'.F.length qk))
  (ho:∀q,q<x.A.length->q≠t->∀j,j<8->w'.cell? ⟨bc',q*8+j,none⟩=w.cell? ⟨bc,q*8+j,none⟩) (hp:∀k,k<c'.F.length->tQ w' qb (k*6) (c'.p k)) (hkq:c'.F.length<=qk) (hN:0<qk->qa=some ⟨qb,0,none⟩/\Nfp qb qk w'/\w.heap.size<=qb/\B<=qb/\qb≠bc') :
  GAt B w' g (b0q x t c') ar kr (some ⟨bc',0,none⟩) kc' vg br bc' (λq=>if q=t then qb else pb q) (λq=>if q=t then qa else pa q) (λq=>if q=t then qk else pk q) (λd=>if d=bc' then 3 else if w.heap.size<=d then 6+t else role d):=by
 have r3:∀d,d<w.heap.size->role d≠3->d≠bc':=λd hd hr e=>by
  rcases hbc with⟨e1,e2⟩ | e1
  ·exact hr (by rw[e,e1];exact(h.cc e2).ro)
  ·omega
 have ro:∀d,d<w.heap.size->role d≠3->(if d=bc' then 3 else if w.heap.size<=d then 6+t else role d)=role d:=λd hd hr=>by rw[if_neg (r3 d hd hr),if_neg (by omega)]
 have far2:∀q,q<w.heap.size->role q≠0->role q≠3->w'.heap[q]?=w.heap[q]?:=λq hq h0 h3=>far q hq (λe=>h0 (by rw[e];exact h.sp.g)) (r3 q hq h3)
 have hc:=newX_c x t c' ht;have lt:=newX_lt x t c' ht;have pf:∀q,q<x.A.length->0<pk q->w'.heap[pb q]?=w.heap[pb q]?:=λq hq hl=>far2 (pb q) (h.rw.pl q hq hl).2.1.1 (by rw[h.sp.p q hq hl];omega) (by rw[h.sp.p q hq hl];omega)
 have fr:0<x.B.length->w'.heap[br]?=w.heap[br]?:=λhr=>far2 br (h.rw.nr hr).1.1 (by rw[h.sp.r hr];omega) (by rw[h.sp.r hr];omega)
 have pne:∀q,q<x.A.length->0<pk q->pb q≠bc':=λq hq hl=>r3 (pb q) (h.rw.pl q hq hl).2.1.1 (by rw[h.sp.p q hq hl];omega)
 refine⟨bx,nfg,h.lo,h.ha,λ_=>rfl,⟨λj hj=>?_,λq hq=>?_,λq hq=>?_,λq hq j hj=>?_,λq hq hlq=>?_,λhr=>⟨uV (h.rw.nr hr).1 (fr hr) hs,(h.rw.nr hr).2⟩,λ_=>⟨nfc,hB⟩,λ_=>r3 br (h.rw.nr r0).1.1 (by rw[h.sp.r r0];omega),λq q' hq hq' hqq h1 h2=>?_,λq hq=>?_⟩,h.gr.block (λq hq=>far2 q (h.gr.lt q hq).2 (by rw[h.sp.y q hq];omega) (by rw[h.sp.y q hq];omega)),⟨?_,λhr=>?_,λ_=>if_pos rfl,λq hq=>?_,λq hq hlq=>?_⟩,hkl,h.pr.of (λq hq h1=>far2 q hq (by rw[h1];omega) (by rw[h1];omega)) (λq hq h1=>by(try dsimp only);rw[ro q hq (by rw[h1];omega)];exact h1),λ_=>⟨rfl,if_pos rfl,nfc,cpc,hB⟩⟩
 ·exact(h.rw.r j hj).of λm _=>World.cell?_of_block (a:=⟨br,_,none⟩) (fr (by have:j<x.B.length:=hj;omega))
 ·rw[hc q];rcases lt q hq with e | ⟨e1,e2⟩
  ·rw[if_pos e,e];exact hst
  ·rw[if_neg e2];exact(h.rw.s q e1).of2 λj hj=>ho q e1 e2 j (by omega)
 ·rw[hc q];rcases lt q hq with e | ⟨e1,e2⟩
  ·simp only [if_pos e];rw[e];exact h7t
  ·simp only [if_neg e2];rw[ho q e1 e2 7 (by omega)];exact h.rw.p7 q e1
 ·rw[hc q] at hj ⊢;rcases lt q hq with e | ⟨e1,e2⟩
  ·simp only [if_pos e] at hj ⊢;exact hp j hj
  ·simp only [if_neg e2] at hj ⊢;exact(h.rw.p q e1 j hj).of λm _=>World.cell?_of_block (a:=⟨pb q,_,none⟩) (pf q e1 (h.rw.pw e1 (by omega)))
 ·rcases lt q hq with e | ⟨e1,e2⟩
  ·simp only [if_pos e] at hlq ⊢;obtain⟨a1,a2,a3,a4,a5⟩:=hN hlq;exact⟨a1,a2,⟨λe=>by have:=(h.rw.nr r0).1.1;omega,a5⟩,a4⟩
  ·simp only [if_neg e2] at hlq ⊢;obtain⟨a1,a2,a3,a4⟩:=h.rw.pl q e1 hlq;exact⟨a1,a0f a2 (pf q e1 hlq) hs,⟨a3.1,pne q e1 hlq⟩,a4⟩
 ·rcases lt q hq with e | ⟨e1,e2⟩
  ·have e':q'≠t:=λu=>hqq (by rw[e,u])
   rcases lt q' hq' with u | ⟨u1,u2⟩
   ·exact absurd u e'
   ·simp only [if_pos e,if_neg e'] at h1 h2 ⊢;have:=(h.rw.pl q' u1 h2).2.1.1;have:=(hN h1).2.2.1;omega
  ·rcases lt q' hq' with u | ⟨u1,u2⟩
   ·simp only [if_pos u,if_neg e2] at h1 h2 ⊢;have:=(h.rw.pl q e1 h1).2.1.1;have:=(hN h2).2.2.1;omega
   ·simp only [if_neg e2,if_neg u2] at h1 h2 ⊢;exact h.rw.dp q q' e1 u1 hqq h1 h2
 ·rw[hc q];rcases lt q hq with e | ⟨e1,e2⟩
  ·simp only [if_pos e];exact hkq
  ·simp only [if_neg e2];exact h.rw.kp q e1
 ·rw[ro g h.nf.1 (by rw[h.sp.g];omega)];exact h.sp.g
 ·rw[ro br (h.rw.nr hr).1.1 (by rw[h.sp.r hr];omega)];exact h.sp.r hr
 ·rw[ro q (h.gr.lt q hq).2 (by rw[h.sp.y q hq];omega)];exact h.sp.y q hq
 ·rcases lt q hq with e | ⟨e1,e2⟩
  ·simp only [if_pos e] at hlq ⊢;obtain⟨_,_,a3,_,a5⟩:=hN hlq;rw[if_neg a5,if_pos a3,e]
  ·simp only [if_neg e2] at hlq ⊢;rw[ro (pb q) (h.rw.pl q e1 hlq).2.1.1 (by rw[h.sp.p q e1 hlq];omega)];exact h.sp.p q e1 hlq
abbrev z6:Array Value:=#[iv 0,iv 0,iv 0,iv 0,iv 0,iv 0]
theorem made6(m j:Nat)(hj:j<m):(madeCells z6 m)[j]?=some (iv 0):=by
 have h6:j % 6<6:=Nat.mod_lt _ (by omega)
 have:([iv 0,iv 0,iv 0,iv 0,iv 0,iv 0]:List Value)[j % 6]?.getD default=iv 0:=by
  have:j % 6=0\/j % 6=1\/j % 6=2\/j % 6=3\/j % 6=4\/j % 6=5:=by omega
  rcases this with e | e | e | e | e | e <;> rw[e] <;> rfl
 simp [madeCells,hj];exact this
theorem c8t(n:Nat)(hn:n<=1048576)(w:World):(Instr.makeSlice 60 (.int .i64 n) (.int .i64 n)).run Tryz.prog w=.ok (.slice (some ⟨w.heap.size,0,none⟩) n n) (w.alloc (.cells (madeCells z6 (n*6)) 154)):=by
 obtain⟨i0,hi,hz0,hz1,hz2⟩:=info_parts a4m;have h:=run_make (P:=Tryz.prog) w 60 154 i0 _ Tryz.underlying60 hi hz0 .i64 .i64 n n (by omega) (Int.le_refl _) (by rw[hz2];omega) (by omega);rw[hz1] at h;simp only [Int.toNat_natCast] at h;exact h
structure a9v(w0 W:World)(qb n:Nat):Prop where
 lt:w0.heap.size<=qb
 nf:Nfp qb n W
 z:∀k,k<n->tQ W qb (k*6) Pr0
theorem a9v.ext(h:a9v w0 W qb n)(e:Ext W W'):a9v w0 W' qb n:=⟨h.lt,h.nf.ext e,λk hk=>(h.z k hk).ext e⟩
theorem a9v.made(w0 w:World)(n:Nat)(t:TypeId)(e:Ext w0 w):a9v w0 (w.alloc (.cells (madeCells z6 (n*6)) t)) w.heap.size n:=by
 have hn:(w.alloc (.cells (madeCells z6 (n*6)) t)).heap[w.heap.size]?=some (.cells (madeCells z6 (n*6)) t):=heap_alloc_new w _;have cz:∀j,j<n*6->(w.alloc (.cells (madeCells z6 (n*6)) t)).cell? ⟨w.heap.size,j,none⟩=some (iv 0):=λj hj=>by rw[cell_of_row _ w.heap.size j _ _ (0,0) hn];exact made6 _ j hj
 exact⟨e.size,⟨by simp,λ_=>by simp [go_sem],λj hj=>⟨_,cz j hj⟩⟩,λk hk=>⟨cz _ (by omega),cz _ (by omega),cz _ (by omega),cz _ (by omega),cz _ (by omega),cz _ (by omega)⟩⟩
theorem a9v.only{S:Nat->Prop}(h:a9v w0 W qb n)(o:uZ S W W')(hS:¬S qb):a9v w0 W' qb n:=
 ⟨h.lt,a0f h.nf (o.block qb h.nf.1 hS) o.size,λk hk=>(h.z k hk).of λ_ _=>World.cell?_of_block (a:=⟨qb,_,none⟩) (o.block qb h.nf.1 hS)⟩
theorem rep_p(c:Cl)(m:Nat)(h:c.F=List.replicate m Pr0)(k:Nat):c.p k=Pr0:=by
 unfold Cl.p;rw[h];by_cases e:k<m
 ·simp [e]
 ·simp [Nat.le_of_not_lt e]
theorem c1v[Inhabited uQ](h:GAt B w0 g x ar kr ac kc vg br bc pb pa pk role)(r0:0<x.B.length)(t:Nat)(ht:t<x.A.length)(c':Cl)(m:Nat)(hm:c'.F=List.replicate m Pr0)(W:World)(e:Ext w0 W)(qb:Nat)(np:a9v w0 W qb m):
  GOk B (qE W bc (t*8) c' (.slice (some ⟨qb,0,none⟩) m m)) g (b0q x t c'):=by
 have hn:0<x.A.length:=by omega
 have hk:0<kc:=Nat.lt_of_lt_of_le hn h.kl;have cc:=h.cc hk;have g1:=h.ext e;have len:(a4t x t c').length=x.A.length:=by rw[a7i,if_pos ht]
 have ml:c'.F.length=m:=by rw[hm];simp
 have o:=a0h W bc (t*8) c' (.slice (some ⟨qb,0,none⟩) m m);have qne:qb≠bc:=λe=>by have:=np.lt;have:=cc.nf.1;omega
 have gne:g≠bc:=λe=>by have h1:=h.sp.g;have h2:=cc.ro;rw[e] at h1;omega
 have fg:=o.block g g1.nf.1 gne;obtain⟨k1,k2⟩:=a8h W bc (t*8) c' (x.c t) (.slice (some ⟨qb,0,none⟩) m m) _ (g1.rw.s t ht) (g1.rw.p7 t ht);have ot:=a3a W bc (t*8) c' (.slice (some ⟨qb,0,none⟩) m m);have np2:=np.only o qne;refine⟨_,_,_,_,_,_,_,_,_,_,_,h.newc r0 t (Nat.le_of_lt ht) c' bc kc qb (some ⟨qb,0,none⟩) m (Nat.le_trans e.size o.size) (.inl ⟨rfl,hk⟩) (λq hq h1 h2=>(o.block q (Nat.lt_of_lt_of_le hq e.size) h2).trans (e.block q hq)) (uV g1.nf fg o.size) ?_ (a4r (g1.cc hk).nf _ _ _) (λj hj=>?_) cc.lo (by rw[len];exact h.kl) k1 (by rw[ml];exact k2) (λq hq h1 j hj=>?_) (λk hk=>?_) (by rw[ml];exact Nat.le_refl _) (λhq=>⟨rfl,np2.nf,np2.lt,by have:=cc.lo;have:=cc.nf.1;have:=np.lt;omega,qne⟩)⟩
 ·have:=(g1.bx.block fg);rw[cc.ad] at this;rw[len];exact this
 ·by_cases u:j<t*8\/t*8+8<=j
  ·rw[ot j u];exact(g1.cc hk).cp j hj
  ·by_cases u7:j=t*8+7
   ·rw[u7];exact⟨_,k2⟩
   ·have:=k1.some (j-t*8) (by omega);rw[show t*8+(j-t*8)=j by omega] at this;exact this
 ·rw[ot _ (by omega)];exact(cD e).1 bc _ cc.nf.1
 ·rw[rep_p c' m hm k];exact np2.z k (by omega)
structure AppC[Inhabited uQ](B g:Nat)(x:Hp)(c':Cl)(v w:World)(b' k':Nat)(w':World):Prop where
 gk:∀W,Ext w' W->GOk B (W.setCell ⟨g,4,none⟩ (.slice (some ⟨b',0,none⟩) (x.A.length+1) k')) g (b0q x x.A.length c')
 far:w'.heap[g]?=w.heap[g]?
 sz:w.heap.size<=w'.heap.size
 ex:Ext v w'
theorem cell_fC{w:World}{b o:Nat}{c:Cl}{u:Value}(s:S7 w b o c)(p:w.cell? ⟨b,o+7,none⟩=some u)(j:Nat)(hj:j<8):w.cell? ⟨b,o+j,none⟩=(fC (c,u))[j]?:=by
 obtain⟨h0,h1,h2,h3,h4,h5,h6⟩:=s
 match j,hj with
 | 0,_=>exact h0
 | 1,_=>exact h1
 | 2,_=>exact h2
 | 3,_=>exact h3
 | 4,_=>exact h4
 | 5,_=>exact h5
 | 6,_=>exact h6
 | 7,_=>exact p
def a7s(x:Hp)(pa:Nat->Option Addr)(pk:Nat->Nat):List (Cl×Value):=(List.range x.A.length).map (λq=>(x.c q,.slice (pa q) (x.c q).F.length (pk q)))
theorem c8v(x:Hp)(pa:Nat->Option Addr)(pk:Nat->Nat):(a7s x pa pk).length=x.A.length:=by simp [a7s]
theorem c3i(x:Hp)(pa:Nat->Option Addr)(pk:Nat->Nat)(q:Nat)(hq:q<(a7s x pa pk).length):(a7s x pa pk)[q]=(x.c q,.slice (pa q) (x.c q).F.length (pk q)):=by simp [a7s]
theorem c8w[Inhabited uQ]{B:Nat}{w0:World}{g:Nat}{x:Hp}{ar:Option Addr}{kr:Nat}{ac:Option Addr}{kc:Nat}{vg:Value}{br bc:Nat}{pb:Nat->Nat}{pa:Nat->Option Addr}{pk:Nat->Nat}{role:Nat->Nat}(h:GAt B w0 g x ar kr ac kc vg br bc pb pa pk role)(r0:0<x.B.length)(n8:x.A.length<=8000)(c':Cl)(m:Nat)(hm:c'.F=List.replicate m Pr0)(qb:Nat)(ty:TypeId)(W1:World)(e1:Ext w0 W1)(np:a9v w0 W1 qb m)(ad:Addr)(c:Nat)(hz:∀j u,(fC (c',.slice (some ⟨qb,0,none⟩) m m))[j]?=some u->W1.cell? (ad.add j)=some u)(v:World)(hv:v.heap.size<=B)(hx:Ext v w0):
  ∃b' k' w',(Builtin.append_ #[31,31] ty #[.slice ac x.A.length kc,.slice (some ad) 1 c]).run Tryz.prog W1=.ok (.slice (some ⟨b',0,none⟩) (x.A.length+1) k') w'/\AppC B g x c' v w0 b' k' w':=by
 have g1:=h.ext e1;obtain⟨i0,hi0,hz0,hz1,hz2⟩:=info_parts a7e
 have one:∀u∈fC (c',.slice (some ⟨qb,0,none⟩) m m),u.oneCell'=true:=λu hu=>by
  simp [fC] at hu;rcases hu with rfl | rfl | rfl | rfl | rfl | rfl | rfl | rfl <;> rfl
 have len:(a4t x x.A.length c').length=x.A.length+1:=by rw[a7i,if_neg (by omega)]
 have ml:c'.F.length=m:=by rw[hm];simp
 have hB0:B<=w0.heap.size:=Nat.le_trans h.lo (Nat.le_of_lt h.nf.1);by_cases hr:x.A.length+1<=kc
 ·have hk:0<kc:=by omega
  have cc:=g1.cc hk
  have hrun:=run_append_room_cells (P:=Tryz.prog) W1 31 ty 62 i0 Tryz.underlying31 hi0 bc 0 x.A.length kc ad 1 c (fC (c',.slice (some ⟨qb,0,none⟩) m m)) (by rw[hz1];rfl) hz one hr (λj hj=>by
   have hj:j<8:=hj;obtain⟨u,hu⟩:=cc.cp (0+x.A.length*i0.size+j) (by rw[hz1];omega);rw[hu];rfl) (λj _=>cc.nf.2 _)
  rw[hz1,Nat.zero_add] at hrun;have oP:uZ (λq=>q=bc) W1 (W1.setCells bc (x.A.length*8) (fC (c',.slice (some ⟨qb,0,none⟩) m m))):=b2a (S:=λq=>q=bc) rfl (uZ.refl _ W1);have gne:g≠bc:=λe=>by have h1:=h.sp.g;have h2:=cc.ro;rw[e] at h1;omega
  have fg:=oP.block g g1.nf.1 gne;have bw:bc<w0.heap.size:=(h.cc hk).nf.1;have qne:qb≠bc:=λe=>by have:=np.lt;omega
  refine⟨bc,kc,_,by rw[cc.ad];exact hrun,⟨λW e=>?_,fg.trans (e1.block g h.nf.1),Nat.le_trans e1.size oP.size,oP.ext (hx.trans e1) (λq hq e=>by have:=cc.lo;omega)⟩⟩;have oW:uZ (λq=>q=bc) W1 W:=oP.trans (uZ.of_ext e);have np2:=np.only oW qne;have cW:∀j,W.cell? ⟨bc,j,none⟩=(W1.setCells bc (x.A.length*8) (fC (c',.slice (some ⟨qb,0,none⟩) m m))).cell? ⟨bc,j,none⟩:=λj=>(cD e).1 bc j (Nat.lt_of_lt_of_le cc.nf.1 oP.size)
  have cS:∀j,(W.setCell ⟨g,4,none⟩ (.slice (some ⟨bc,0,none⟩) (x.A.length+1) kc)).cell? ⟨bc,j,none⟩=(W1.setCells bc (x.A.length*8) (fC (c',.slice (some ⟨qb,0,none⟩) m m))).cell? ⟨bc,j,none⟩:=λj=>(uC _ (.inl gne)).trans (cW j)
  have key:∀j,j<8->(W.setCell ⟨g,4,none⟩ (.slice (some ⟨bc,0,none⟩) (x.A.length+1) kc)).cell? ⟨bc,x.A.length*8+j,none⟩=(fC (c',.slice (some ⟨qb,0,none⟩) m m))[j]?:=λj hj=>(cS _).trans (c1t bc _ _ j W1 (λi hi=>cc.cp _ (by have:i<8:=hi;omega)) hj)
  have nfW:Nf1 bc W:=cc.nf.put.ext e;have qg:qb≠g:=λe=>by have:=np.lt;have:=h.nf.1;omega
  have npS:=np2.only (S:=λq=>q=g) (uZ.setCell (S:=λq=>q=g) (uZ.refl _ W) (p:=⟨g,4,none⟩) rfl (.slice (some ⟨bc,0,none⟩) (x.A.length+1) kc)) qg;refine⟨_,_,_,_,_,_,_,_,_,_,_,h.newc r0 x.A.length (Nat.le_refl _) c' bc kc qb (some ⟨qb,0,none⟩) m (by have:=oW.size;have:=e1.size;simp only [World.setCell,Array.size_modify];omega) (.inl ⟨rfl,hk⟩) (λq hq h1 h2=>(Below.heap_setCell _ _ _ _ h1).trans ((oW.block q (Nat.lt_of_lt_of_le hq e1.size) h2).trans (e1.block q hq))) ((uV g1.nf (oW.block g g1.nf.1 gne) oW.size).set _ _) ?_ (nfW.set _ _) (λj hj=>?_) cc.lo (by rw[len];exact hr) ⟨key 0 (by omega),key 1 (by omega),key 2 (by omega),key 3 (by omega),key 4 (by omega),key 5 (by omega),key 6 (by omega)⟩ (by rw[ml];exact key 7 (by omega)) (λq hq h1 j hj=>?_) (λk hk=>?_) (by rw[ml];exact Nat.le_refl _) (λhq=>⟨rfl,npS.nf,npS.lt,by have:=npS.lt;omega,qne⟩)⟩
  ·have:=(g1.bx.block (oW.block g g1.nf.1 gne)).set4 (.slice (some ⟨bc,0,none⟩) (x.A.length+1) kc);rw[len];exact this
  ·by_cases u:j<x.A.length*8\/x.A.length*8+8<=j
   ·rw[cS,a9u bc _ _ _ W1 (by have:(fC (c',.slice (some ⟨qb,0,none⟩) m m)).length=8:=rfl;omega)];exact cc.cp j hj
   ·have:=key (j-x.A.length*8) (by omega);rw[show x.A.length*8+(j-x.A.length*8)=j by omega] at this;rw[this];have hl:j-x.A.length*8<(fC (c',.slice (some ⟨qb,0,none⟩) m m)).length:=by have:(fC (c',.slice (some ⟨qb,0,none⟩) m m)).length=8:=rfl;omega
    exact⟨_,List.getElem?_eq_getElem hl⟩
  ·rw[cS,a9u bc _ _ _ W1 (by omega)];exact(cD e1).1 bc _ bw
  ·rw[rep_p c' m hm k];exact npS.z k (by omega)
 ·have RL:=c8v x pa pk;have rc:∀W,Ext w0 W->∀q,q<x.A.length->∀j,j<8->W.cell? ⟨bc,q*8+j,none⟩=(fC (x.c q,.slice (pa q) (x.c q).F.length (pk q)))[j]?:=λW e q hq j hj=>cell_fC ((h.ext e).rw.s q hq) ((h.ext e).rw.p7 q hq) j hj
  have grow:∃v' w',(Builtin.append_ #[31,31] ty #[.slice ac x.A.length kc,.slice (some ad) 1 c]).run Tryz.prog W1=.ok v' w'/\w'.ownsRow W1.heap.size 62 8 v' (x.A.length+1) ((a7s x pa pk).flatMap fC++fC (c',.slice (some ⟨qb,0,none⟩) m m))/\W1.grownBy w' none:=by
   have hmax:x.A.length+1<=maxLen:=by unfold maxLen;omega
   cases ea:ac with
   | none=>
    have k0:kc=0:=by
     rcases Nat.eq_zero_or_pos kc with k0 | k0
     ·exact k0
     ·have:=(h.cc k0).ad;rw[ea] at this;cases this
    have n0:x.A.length=0:=by have:=h.kl;omega
    have l0:a7s x pa pk=[]:=List.eq_nil_of_length_eq_zero (by rw[RL];exact n0);rw[k0,l0,n0];obtain⟨v',w',r1,r2,r3,_⟩:=run_append_own (P:=Tryz.prog) W1 W1.heap.size 31 ty 62 i0 _ 8 80 Tryz.underlying31 hi0 hz0 hz1 hz2 rfl (by decide) (.slice none 0 0) 0 [] (World.ownsRow_nil W1 _ _ _) ad 1 c (fC (c',.slice (some ⟨qb,0,none⟩) m m)) rfl hz one (by unfold maxLen;omega) (by decide) (Nat.le_refl _);exact⟨v',w',r1,r2,r3⟩
   | some b=>
    refine run_append_arg_grows (P:=Tryz.prog) W1 31 ty 62 i0 _ 8 80 Tryz.underlying31 hi0 hz0 hz1 hz2 rfl (by decide) b _ _ ((a7s x pa pk).flatMap fC) (by rw[a4o fC 8 (λ_=>rfl),RL]) (λj u hu=>?_) ad 1 c (fC (c',.slice (some ⟨qb,0,none⟩) m m)) rfl hz (by omega) hmax (by omega)
    have hj:j<((a7s x pa pk).flatMap fC).length:=by
     rcases Nat.lt_or_ge j ((a7s x pa pk).flatMap fC).length with q | q
     ·exact q
     ·rw[List.getElem?_eq_none q] at hu;cases hu
    rw[a4o fC 8 (λ_=>rfl),RL] at hj;have hb:=h.hc (by omega);rw[ea] at hb;have hb:=Option.some.inj hb;rw[hb];exact a7h fC 8 (by omega) (λ_=>rfl) (a7s x pa pk) bc 0 (λi hi k hk=>by rw[Nat.zero_add,c3i x pa pk i hi];exact rc W1 e1 i (by rw[RL] at hi;exact hi) k hk) j u hu
  obtain⟨v',w',hrun,hown,hgr⟩:=grow;have eg:Ext W1 w':=⟨hgr.os,hgr.tape,hgr.output,hgr.size,λk hk=>hgr.block k hk (by simp)⟩;have vk:0<yX v':=by have:=b6e hown;omega
  obtain⟨o1,o2,o3,o4,o5⟩:=c7k hown vk;have vf:v'=.slice (some ⟨qN v',0,none⟩) (x.A.length+1) (yX v'):=by rw[<-o1];exact(a0k hown).1
  have hown2:w'.ownsRow W1.heap.size 62 8 v' (a7s x pa pk++[(c',Value.slice (some ⟨qb,0,none⟩) m m)]).length ((a7s x pa pk++[(c',Value.slice (some ⟨qb,0,none⟩) m m)]).flatMap fC):=by
   rw[List.length_append,RL,List.flatMap_append]
   simpa using hown
  have cz:=a8g (f:=fC) (λ_=>rfl) hown2;have hll:(a7s x pa pk++[(c',Value.slice (some ⟨qb,0,none⟩) m m)]).length=x.A.length+1:=by rw[List.length_append,RL];rfl
  refine⟨qN v',yX v',w',by rw[<-vf];exact hrun,⟨λW e=>?_,(eg.block g g1.nf.1).trans (e1.block g h.nf.1),Nat.le_trans e1.size eg.size,(hx.trans e1).trans eg⟩⟩;obtain⟨b',hb'⟩:∃b',b'=qN v':=⟨_,rfl⟩;rw[<-hb'] at o3 o4 o5 cz ⊢;have gb:g≠b':=λe=>by have:=g1.nf.1;omega
  have cS:∀j,(W.setCell ⟨g,4,none⟩ (.slice (some ⟨b',0,none⟩) (x.A.length+1) (yX v'))).cell? ⟨b',j,none⟩=w'.cell? ⟨b',j,none⟩:=λj=>(uC _ (.inl gb)).trans ((cD e).1 b' j o3.1)
  have key:∀j,j<8->(W.setCell ⟨g,4,none⟩ (.slice (some ⟨b',0,none⟩) (x.A.length+1) (yX v'))).cell? ⟨b',x.A.length*8+j,none⟩=(fC (c',.slice (some ⟨qb,0,none⟩) m m))[j]?:=λj hj=>by
   rw[cS,cz x.A.length (by omega) j hj];have:(a7s x pa pk++[(c',Value.slice (some ⟨qb,0,none⟩) m m)])[x.A.length]'(by omega)=(c',Value.slice (some ⟨qb,0,none⟩) m m):=by rw[List.getElem_append_right (by omega)];simp [RL]
   rw[this]
  have eW:Ext W1 W:=eg.trans e;have qg:qb≠g:=λe=>by have:=np.lt;have:=h.nf.1;omega
  have npS:=(np.ext eW).only (S:=λq=>q=g) (uZ.setCell (S:=λq=>q=g) (uZ.refl _ W) (p:=⟨g,4,none⟩) rfl (.slice (some ⟨b',0,none⟩) (x.A.length+1) (yX v'))) qg;have hBb:B<=b':=by have:=e1.size;omega
  refine⟨_,_,_,_,_,_,_,_,_,_,_,h.newc r0 x.A.length (Nat.le_refl _) c' b' (yX v') qb (some ⟨qb,0,none⟩) m (by have:=eW.size;have:=e1.size;simp only [World.setCell,Array.size_modify];omega) (.inr (by have:=e1.size;omega)) (λq hq h1 h2=>(Below.heap_setCell _ _ _ _ h1).trans ((e1.trans eW).block q hq)) ((g1.nf.ext eW).set _ _) ?_ ((o3.ext e).set _ _) (λj hj=>?_) hBb (by rw[len];exact b6e hown) ⟨key 0 (by omega),key 1 (by omega),key 2 (by omega),key 3 (by omega),key 4 (by omega),key 5 (by omega),key 6 (by omega)⟩ (by rw[ml];exact key 7 (by omega)) (λq hq h1 j hj=>?_) (λk hk=>?_) (by rw[ml];exact Nat.le_refl _) (λhq=>⟨rfl,npS.nf,npS.lt,by have:=npS.lt;omega,λe=>by have:=np.nf.1;omega⟩)⟩
  ·have:=(g1.bx.ext eW).set4 (.slice (some ⟨b',0,none⟩) (x.A.length+1) (yX v'));rw[len];exact this
  ·rw[cS];exact o4 j hj
  ·rw[cS,cz q (by omega) j hj];have:(a7s x pa pk++[(c',Value.slice (some ⟨qb,0,none⟩) m m)])[q]'(by omega)=(x.c q,.slice (pa q) (x.c q).F.length (pk q)):=by rw[List.getElem_append_left (by omega)];exact c3i x pa pk q (by omega)
   rw[this];exact(rc w0 (Ext.refl _) q hq j hj).symm
  ·rw[rep_p c' m hm k];exact npS.z k (by omega)
theorem c5c[Inhabited uQ]{ops:Array Oper}{o:Oper}{a:Act}{K:Act->World->Prop}{Q:Exit->Act->World->Prop}{E:Prop}(W1:World)(hgd:o.guard=none)(s y:Operand)
  (ho:o.op=.call { callee:=.builtin .append,args:=#[s,y],argTypes:=#[31,31] })
                (h:GAt B w0 g x ar kr ac kc vg br bc pb pa pk role) (r0:0<x.B.length) (n8:x.A.length<=8000) (c':Cl) (m:Nat) (hm:c'.F=List.replicate m Pr0) (qb:Nat) (e1:Ext w0 W1) (np:a9v w0 W1 qb m) (ad:Addr) (c:Nat)
  (hs:a.eval s=.slice ac x.A.length kc) (hy:a.eval y=.slice (some ad) 1 c) (hz:∀j u,(fC (c',.slice (some ⟨qb,0,none⟩) m m))[j]?=some u->W1.cell? (ad.add j)=some u) (v:World) (hv:v.heap.size<=B) (hx:Ext v w0)
  (hK:∀b' k' w',AppC B g x c' v w0 b' k' w'->K (a.put o.dst (.slice (some ⟨b',0,none⟩) (x.A.length+1) k')) w') :
  if Region.wanted o (yielded ops a.tmps)=true then Oper.wp Tryz.prog o a W1 K Q else E:=by
 have hw:Region.wanted o (yielded ops a.tmps)=true:=by simp [Region.wanted,hgd]
 rw[if_pos hw];obtain⟨b',k',w',hr,h3⟩:=c8w h r0 n8 c' m hm qb o.type W1 e1 np ad c hz v hv hx;unfold Oper.wp execOp;simp only [ho,resolve,invoke,builtin,Sem.run_bind,Sem.run_pure,Result.andThen_ok,List.map_toArray,List.map_cons,List.map_nil,hs,hy,hr];exact hK b' k' w' h3
def a2w(x:Hp)(H:Nat->Bool)(k:Nat)(z:Hp):Hp:=
 if H k=true then { z with A:=z.A.set k (b4j x H (x.c k)),K:=z.K-tW x H (x.c k) (x.c k).F,sub:=a2h x H k z.sub }
 else if (x.c k).U=1 then { z with A:=z.A.set k (b6r (x.c k)) } else z
def stTo(x:Hp)(H:Nat->Bool):Nat->Hp
 | 0=>x
 | k+1=>a2w x H k (stTo x H k)
def a3y(x y:Hp):Prop:=x.M=y.M/\x.born=y.born/\x.B=y.B/\x.E=y.E/\x.I=y.I/\x.D=y.D/\x.per=y.per/\x.V=y.V/\x.Q=y.Q/\x.S=y.S
theorem a3y.refl(x:Hp):a3y x x:=⟨rfl,rfl,rfl,rfl,rfl,rfl,rfl,rfl,rfl,rfl⟩
theorem hp_eq{y:Hp}(r:a3y x y)(hu:x.K=y.K)(hs:x.sub=y.sub)(hl:x.A.length=y.A.length)(hc:∀q,q<x.A.length->x.c q=y.c q):x=y:=by
 have e:x.A=y.A:=List.ext_getElem hl λi h1 h2=>by rw[Hp.c_eq x i h1,Hp.c_eq y i h2];exact hc i h1
 obtain⟨r1,r2,r3,r4,r5,r6,r7,r8,r9,r10⟩:=r;cases x;cases y;simp only at *;subst r1 r2 r3 r4 r5 r6 r7 r8 r9 r10 hu hs e;rfl
theorem b0r(x:Hp)(H:Nat->Bool):∀k,a3y (stTo x H k) x
 | 0=>a3y.refl x
 | k+1=>by
  have ih:=b0r x H k;show a3y (a2w x H k (stTo x H k)) x;unfold a2w
  split
  ·exact ih
  ·split
   ·exact ih
   ·exact ih
theorem b3r(x:Hp)(H:Nat->Bool):∀k,a3y (cE x H k) x
 | 0=>a3y.refl x
 | k+1=>by
  have ih:=b3r x H k;unfold cE
  split
  ·exact ih
  ·exact ih
theorem b3s(x z:Hp)(H:Nat->Bool):∀k,a3y (zC x z H k) z/\(zC x z H k).K=z.K/\(zC x z H k).sub=z.sub
 | 0=>⟨a3y.refl z,rfl,rfl⟩
 | k+1=>by
  have ih:=b3s x z H k;unfold zC
  split
  ·exact ih
  ·exact ih
theorem a6q(x:Hp)(H:Nat->Bool):∀k,(stTo x H k).A.length=x.A.length
 | 0=>rfl
 | k+1=>by
  have ih:=a6q x H k;show(a2w x H k (stTo x H k)).A.length=_;unfold a2w
  split
  ·simpa using ih
  ·split
   ·simpa using ih
   ·exact ih
theorem b9e(x:Hp)(H:Nat->Bool):∀k,(stTo x H k).K=(cE x H k).K/\(stTo x H k).sub=(cE x H k).sub
 | 0=>⟨rfl,rfl⟩
 | k+1=>by
  have ih:=b9e x H k;show(a2w x H k (stTo x H k)).K=_/\(a2w x H k (stTo x H k)).sub=_;unfold a2w cE;by_cases h:H k=true
  ·rw[if_pos h,if_pos h];exact⟨by show(stTo x H k).K-_=(cE x H k).K-_;rw[ih.1],by show a2h x H k (stTo x H k).sub=a2h x H k (cE x H k).sub;rw[ih.2]⟩
  ·rw[if_neg h,if_neg h]
   split
   ·exact ih
   ·exact ih
theorem set_c(z:Hp)(u s:Int)(k:Nat)(c:Cl)(hk:k<z.A.length)(q:Nat):({ z with A:=z.A.set k c,K:=u,sub:=s }:Hp).c q=if q=k then c else z.c q:=Hp.c_set z k c hk q
theorem c1w(x:Hp)(H:Nat->Bool):∀k,k<=x.A.length->∀q,(stTo x H k).c q=if q<k then stlC x H q else x.c q
 | 0,_,q=>by rw[if_neg (by omega)];rfl
 | k+1,hk,q=>by
  have ih:=c1w x H k (by omega) q;have hl:k<(stTo x H k).A.length:=by rw[a6q];omega
  show(a2w x H k (stTo x H k)).c q=_
  have key:(a2w x H k (stTo x H k)).c q=if q=k then stlC x H k else (stTo x H k).c q:=by
   unfold a2w stlC;by_cases h:H k=true
   ·rw[if_pos h,if_pos h];exact set_c _ _ _ k _ hl q
   ·rw[if_neg h,if_neg h];by_cases h2:(x.c k).U=1
    ·rw[if_pos h2,if_pos h2];exact Hp.c_set _ k _ hl q
    ·rw[if_neg h2,if_neg h2];by_cases e:q=k
     ·subst e;rw[if_pos rfl,ih,if_neg (by omega)]
     ·rw[if_neg e]
  rw[key,ih];by_cases e:q=k
  ·subst e;rw[if_pos rfl,if_pos (by omega)]
  ·rw[if_neg e];by_cases h:q<k
   ·rw[if_pos h,if_pos (by omega)]
   ·rw[if_neg h,if_neg (by omega)]
theorem b9f(x z:Hp)(H:Nat->Bool):∀k,k<=z.A.length->∀q,(zC x z H k).c q=if q<k/\a7r x H q=true then b6r (x.c q) else z.c q
 | 0,_,q=>by rw[if_neg (by omega)];rfl
 | k+1,hk,q=>by
  have ih:=b9f x z H k (by omega) q;have hl:k<(zC x z H k).A.length:=by rw[a3n];omega
  unfold zC;by_cases h:a7r x H k=true
  ·rw[if_pos h];have:=Hp.c_set (zC x z H k) k (b6r (x.c k)) hl q;rw[this,ih];by_cases e:q=k
   ·subst e;rw[if_pos rfl,if_pos ⟨by omega,h⟩]
   ·rw[if_neg e];by_cases h2:q<k/\a7r x H q=true
    ·rw[if_pos h2,if_pos ⟨by omega,h2.2⟩]
    ·rw[if_neg h2,if_neg (λh3=>h2 ⟨by omega,h3.2⟩)]
  ·rw[if_neg h,ih];by_cases h2:q<k/\a7r x H q=true
   ·rw[if_pos h2,if_pos ⟨by omega,h2.2⟩]
   ·rw[if_neg h2,if_neg (λh3=>by
     by_cases e:q=k
     ·rw[e] at h3;exact h h3.2
     ·exact h2 ⟨by omega,h3.2⟩)]
theorem c8x(x:Hp)(H:Nat->Bool):stTo x H x.A.length=a4h x H:=by
 have d:=b3s x (cE x H x.A.length) H x.A.length;have c:=b3r x H x.A.length;have s:=b0r x H x.A.length;have u:=b9e x H x.A.length;have hlz:(cE x H x.A.length).A.length=x.A.length:=a2d x H _;refine hp_eq ?_ (by rw[u.1];exact d.2.1.symm) (by rw[u.2];exact d.2.2.symm) ?_ λq hq=>?_
 ·obtain⟨d1,d2,d3,d4,d5,d6,d7,d8,d9,d10⟩:=d.1;obtain⟨c1,c2,c3,c4,c5,c6,c7,c8,c9,c10⟩:=c;obtain⟨s1,s2,s3,s4,s5,s6,s7,s8,s9,s10⟩:=s;exact⟨s1.trans (d1.trans c1).symm,s2.trans (d2.trans c2).symm,s3.trans (d3.trans c3).symm,s4.trans (d4.trans c4).symm,s5.trans (d5.trans c5).symm,s6.trans (d6.trans c6).symm,s7.trans (d7.trans c7).symm,s8.trans (d8.trans c8).symm,s9.trans (d9.trans c9).symm,s10.trans (d10.trans c10).symm⟩
 ·rw[a6q];unfold a4h;rw[a3n,a2d]
 ·have hq':q<x.A.length:=by rw[a6q] at hq;exact hq
  rw[c1w x H _ (Nat.le_refl _) q,if_pos hq'];unfold a4h;rw[b9f x _ H _ (by rw[hlz];exact Nat.le_refl _) q,a9s x H _ (Nat.le_refl _) q];unfold stlC a7r;cases h:H q
  ·by_cases h2:(x.c q).U=1
   ·rw[if_neg (by simp),if_pos h2,if_pos ⟨hq',by simp [h2]⟩]
   ·rw[if_neg (by simp),if_neg h2,if_neg (by simp [h2]),if_neg (by simp)]
  ·rw[if_pos rfl,if_neg (by simp),if_pos ⟨hq',rfl⟩]
end Go.Proofs.YtddkhnclmeikfaaGreat
