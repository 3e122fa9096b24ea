import Derived.Test.YtddkhnclmeikfaaGreatEn
set_option maxRecDepth 100000
set_option maxHeartbeats 4000000
namespace Go.Proofs.YtddkhnclmeikfaaGreat
open Go.RowKit
attribute [local go_sem ↓] Go.wp_at_zero Go.wp_at_succ
variable{x:Hp}{w w' w0 W W' w4 w1 w2:World}{B br bc g kr kc n i q qb:Nat}{pb pk cB cO role:Nat->Nat}{pa:Nat->Option Addr}{vg vr vc:Value}{ar ac:Option Addr}{c:Cl}{S:Nat->Prop}
theorem c6i[p:Inhabited uN](B g:Nat)(x:Hp)(a b c:Nat)(n:Int)(w:World)(h:GOk B w g x)(s:Snd x)(ha:a<16)(hc:c<=200)(hk:(x.r a).k=2)(v:World)(hv:v.heap.size<=B)(hx:Ext v w):
  Calls Tryz.prog 253 #[.pointer (some ⟨g,0,none⟩),qZ 9 a b c n] w λe w'=>dC B g x a b c n 9 v e w':=by
 obtain⟨p1,o1,g1⟩:=GOk.enter h (w0:=doW w 9 a b c n) (((Ext.refl w).alloc _).alloc _);obtain⟨W1,hW1⟩:∃W,W=doW w 9 a b c n:=⟨_,rfl⟩;have bx:=eQ.new w 9 a b c n;have x1:Ext v (doW w 9 a b c n):=(hx.alloc _).alloc _;rw[<-hW1] at g1 bx x1;obtain⟨br,kr,hr⟩:=g1.regs s.r1.regs;have c3:=hr.c3;obtain⟨r0,r1,r2⟩:=hr.r a ha;have hgw:g<W1.heap.size:=uL c3;have hbw:br<W1.heap.size:=uL r0;have O1:=uU o1;have G1:=uU g1;have V0:=uU (show v.heap.size<=w.heap.size+1 by have:=hx.size;omega);have X1:=uU x1;obtain⟨t0,t1,t2,t3,t4,t5,t6,t7⟩:=bx;have hw1:w.heap.size<W1.heap.size:=uL t0;have j0:(0:Int)<=(a:Int):=by omega
 have j1:(a:Int)<16:=by omega
 have D:=uU hk;have q2b:((x.r a).k != 2)=false:=by simpa using hk
 obtain⟨en,ea,hi,st,nd⟩:=s.at a ha hk;obtain⟨i,hI⟩:∃i,i=x.at a:=⟨_,rfl⟩;have HI:=uU hI;rw[<-hI] at ea hi st nd;have EA:=uU ea;have S:=uU s;have i0:(0:Int)<=(i:Int):=by omega
 have i1:(i:Int)<(x.cells.length:Int):=by omega
 clear hk ea hI s en;clear nd;clear h hr o1 g1 x1;go_enter Tryz.func253,Tryz.ntmps253;go_wp2_with fail;unfold doW at hW1;rw[<-hW1];clear hW1
 go_region
 obtain⟨W2,hW2⟩:∃W,W=(W1.alloc (.cells #[.int .i64 (x.r a).k,.int .i64 (x.r a).n,.int .i64 (x.r a).a] 152)).drew:=⟨_,rfl⟩;rw[<-hW2];have x12:Ext W1 W2:=by rw[hW2];exact((Ext.refl _).alloc _).drew
 have WB:tW W2 W1.heap.size 0 (x.r a):=by rw[hW2];exact⟨by simp [go_sem],by simp [go_sem],by simp [go_sem]⟩
 obtain⟨y0,y1,y2⟩:=WB;have G2:=uU (G1.ext x12);have X2:=uU (X1.trans x12);have hy2:W1.heap.size<W2.heap.size:=uL y0;clear hW2 x12 c3 r0 r1 r2 t0 t1 t2 t3 t4 t5 t6 t7;obtain⟨t0,t1,t2,t3,t4,t5,t6,t7⟩:=G2.boxes O1;have hw2:w.heap.size<W2.heap.size:=uL t0;have hw2':w.heap.size+1<W2.heap.size:=uL t5;rw[uH EA] at y2;have QC:=uU (λ(W:World) (xW:Ext W2 W)=>b9x B g x a b c n W (G2.ext xW) S ha hc D v hv (X2.trans xW));go_wp2_with fail;refine(QC _ (Ext.refl W2)).mono ?_;rintro e w3 ⟨y,cd,nm,he,dr,g3,x3⟩;have e2:=uH he;subst e2;have DR:=uU dr;have G3:=uU g3;have X3:=uU x3;clear he g3 x3 dr QC;clear t0 t1 t2 t3 t4 t5 t6 t7 y0 y1 y2;obtain⟨u0,u1,u2,u3,u4,u5,u6,u7⟩:=G3.boxes O1;have hw3:w.heap.size+1<w3.heap.size:=uL u5;go_wp2_with fail;refine bodyPost_ret (v:=eY cd nm) (by simp [results,Tryz.results253,go_sem,u5,u6]) rfl ?_;exact⟨y,cd,nm,rfl,.inr ⟨D,DR⟩,GOk.done O1 G3 cd nm,uW X3 V0 cd nm⟩
theorem l5do_9[p:Inhabited uN](B g:Nat)(x:Hp)(a b c:Nat)(n:Int)(w:World)(h:GOk B w g x)(s:Snd x)(ok:dU 9 a b c n=true)(ha:a<16)(hc:c<=200)(v:World)(hv:v.heap.size<=B)(hx:Ext v w):
  Calls Tryz.prog 234 #[.pointer (some ⟨g,0,none⟩),qZ 9 a b c n] w λe w'=>dC B g x a b c n 9 v e w':=by
 obtain⟨p1,o1,g1⟩:=GOk.enter h (w0:=doW w 9 a b c n) (((Ext.refl w).alloc _).alloc _);have HG:=uU g1;have S:=uU s;have O1:=uU o1;have QA:=uU (λW=>hE 9 a b c n W);rw[ok] at QA;have V0:=uU (show v.heap.size<=w.heap.size+1 by have:=hx.size;omega);have XD:=uU (show Ext v (doW w 9 a b c n) from(hx.alloc _).alloc _);have BX:=uU (eQ.new w 9 a b c n);clear h s o1 g1;go_enter Tryz.func234,Tryz.ntmps234;go_wp2_with fail;refine(QA _).mono ?_;rintro e w1 ⟨rfl,x1⟩;have X1:=uU (XD.trans x1);have BX1:=uU (BX.ext x1);obtain⟨t0,t1,t2,t3,t4,t5,t6,t7⟩:=uH BX1;have hw1:w.heap.size+1<w1.heap.size:=uL t5;have hw0:w.heap.size<w1.heap.size:=uL t0;have G1:=uU (HG.ext x1)
 have QP:=uU (show Calls Tryz.prog 253 #[.pointer (some ⟨g,0,none⟩),qZ 9 a b c n] w1 λe w'=>dC B g x a b c n 9 v e w' from by
  by_cases hk:(x.r a).k=2
  ·exact c6i B g x a b c n w1 G1 S ha hc hk v hv X1
  ·exact(a3k B g x 9 a b c n w1 G1 S ha hk v X1).mono λe w2 hh=>⟨x,2,0,hh.1,.inl ⟨hk,rfl,rfl,rfl⟩,hh.2.1,hh.2.2⟩)
 clear x1 QA BX1 BX XD HG;go_wp2_with fail;refine QP.mono ?_;rintro e w3 ⟨y,cd,nm,he,dr,g3,x3⟩;have e2:=uH he;subst e2;have G3:=uU g3;have X3:=uU x3;clear he g3 x3 QP;obtain⟨u0,u1,u2,u3,u4,u5,u6,u7⟩:=G3.boxes O1;have hw3:w.heap.size+1<w3.heap.size:=uL u5;clear t0 t1 t2 t3 t4 t5 t6 t7;go_wp2_with fail;refine bodyPost_ret (v:=eY cd nm) (by simp [results,Tryz.results234,go_sem,u5,u6]) rfl ?_;exact⟨y,cd,nm,rfl,dr,GOk.done O1 G3 cd nm,uW X3 V0 cd nm⟩
abbrev b0c(x:Hp)(t:Nat)(c':Cl):Hp:={ x with cells:=a4q x t c' }
theorem newX_c(x:Hp)(t:Nat)(c':Cl)(ht:t<=x.cells.length)(q:Nat):(b0c x t c').c q=if q=t then c' else x.c q:=c1a x (b0c x t c') t c' ht rfl q
theorem newX_lt(x:Hp)(t:Nat)(c':Cl)(ht:t<=x.cells.length)(q:Nat)(hq:q<(b0c x t c').cells.length):q=t\/(q<x.cells.length/\q≠t):=by
 have:=a6y x t c';have hq:q<(a4q x t c').length:=hq;rw[this] at hq
 split at hq <;> omega
theorem S7.of2{b b' o:Nat}(h:S7 w b o c)(e:∀j,j<7->w'.cell? ⟨b',o+j,none⟩=w.cell? ⟨b,o+j,none⟩):S7 w' b' o c:=by
 obtain⟨a0,a1,a2,a3,a4,a5,a6⟩:=h;exact⟨(e 0 (by omega)).trans a0,(e 1 (by omega)).trans a1,(e 2 (by omega)).trans a2,(e 3 (by omega)).trans a3,(e 4 (by omega)).trans a4,(e 5 (by omega)).trans a5,(e 6 (by omega)).trans a6⟩
theorem GAt.newc[Inhabited uN](h:GAt B w g x ar kr ac kc vg br bc pb pa pk role)(r0:0<x.regs.length)(t:Nat)(ht:t<=x.cells.length)(c':Cl)(bc' kc' qb:Nat)(qa:Option Addr)(qk:Nat)(hs:w.heap.size<=w'.heap.size)
  (hbc:(bc'=bc/\0<kc)\/w.heap.size<=bc') (far:∀q,q<w.heap.size->q≠g->q≠bc'->w'.heap[q]?=w.heap[q]?) (nfg:Nf1 g w') (bx:dW w' g (b0c x t c') (.slice ar x.regs.length kr) (.slice (some ⟨bc',0,none⟩) (a4q x t c').length kc') vg)
  (nfc:Nf1 bc' w') (cpc:∀j,j<kc'*8->∃v,w'.cell? ⟨bc',j,none⟩=some v) (hB:B<=bc') (hkl:(a4q x t c').length<=kc') (hst:S7 w' bc' (t*8) c') (h7t:w'.cell? ⟨bc',t*8+7,none⟩=some (.slice qa c'.prs.length qk))
  (ho:∀q,q<x.cells.length->q≠t->∀j,j<8->w'.cell? ⟨bc',q*8+j,none⟩=w.cell? ⟨bc,q*8+j,none⟩) (hp:∀k,k<c'.prs.length->tL w' qb (k*6) (c'.p k)) (hkq:c'.prs.length<=qk) (hN:0<qk->qa=some ⟨qb,0,none⟩/\Nfp qb qk w'/\w.heap.size<=qb/\B<=qb/\qb≠bc') :
  GAt B w' g (b0c x t c') ar kr (some ⟨bc',0,none⟩) kc' vg br bc' (λq=>if q=t then qb else pb q) (λq=>if q=t then qa else pa q) (λq=>if q=t then qk else pk q) (λd=>if d=bc' then 3 else if w.heap.size<=d then 6+t else role d):=by
 have r3:∀d,d<w.heap.size->role d≠3->d≠bc':=λd hd hr e=>by
  rcases hbc with⟨e1,e2⟩ | e1
  ·exact hr (by rw[e,e1];exact(h.cc e2).ro)
  ·omega
 have ro:∀d,d<w.heap.size->role d≠3->(if d=bc' then 3 else if w.heap.size<=d then 6+t else role d)=role d:=λd hd hr=>by rw[if_neg (r3 d hd hr),if_neg (by omega)]
 have far2:∀q,q<w.heap.size->role q≠0->role q≠3->w'.heap[q]?=w.heap[q]?:=λq hq h0 h3=>far q hq (λe=>h0 (by rw[e];exact h.sp.g)) (r3 q hq h3)
 have hc:=newX_c x t c' ht;have lt:=newX_lt x t c' ht;have pf:∀q,q<x.cells.length->0<pk q->w'.heap[pb q]?=w.heap[pb q]?:=λq hq hl=>far2 (pb q) (h.rw.pl q hq hl).2.1.1 (by rw[h.sp.p q hq hl];omega) (by rw[h.sp.p q hq hl];omega)
 have fr:0<x.regs.length->w'.heap[br]?=w.heap[br]?:=λhr=>far2 br (h.rw.nr hr).1.1 (by rw[h.sp.r hr];omega) (by rw[h.sp.r hr];omega)
 have pne:∀q,q<x.cells.length->0<pk q->pb q≠bc':=λq hq hl=>r3 (pb q) (h.rw.pl q hq hl).2.1.1 (by rw[h.sp.p q hq hl];omega)
 refine⟨bx,nfg,h.lo,h.ha,λ_=>rfl,⟨λj hj=>?_,λq hq=>?_,λq hq=>?_,λq hq j hj=>?_,λq hq hlq=>?_,λhr=>⟨hY (h.rw.nr hr).1 (fr hr) hs,(h.rw.nr hr).2⟩,λ_=>⟨nfc,hB⟩,λ_=>r3 br (h.rw.nr r0).1.1 (by rw[h.sp.r r0];omega),λq q' hq hq' hqq h1 h2=>?_,λq hq=>?_⟩,h.gr.block (λq hq=>far2 q (h.gr.lt q hq).2 (by rw[h.sp.y q hq];omega) (by rw[h.sp.y q hq];omega)),⟨?_,λhr=>?_,λ_=>if_pos rfl,λq hq=>?_,λq hq hlq=>?_⟩,hkl,h.pr.of (λq hq h1=>far2 q hq (by rw[h1];omega) (by rw[h1];omega)) (λq hq h1=>by(try dsimp only);rw[ro q hq (by rw[h1];omega)];exact h1),λ_=>⟨rfl,if_pos rfl,nfc,cpc,hB⟩⟩
 ·exact(h.rw.r j hj).of λm _=>World.cell?_of_block (a:=⟨br,_,none⟩) (fr (by have:j<x.regs.length:=hj;omega))
 ·rw[hc q];rcases lt q hq with e | ⟨e1,e2⟩
  ·rw[if_pos e,e];exact hst
  ·rw[if_neg e2];exact(h.rw.s q e1).of2 λj hj=>ho q e1 e2 j (by omega)
 ·rw[hc q];rcases lt q hq with e | ⟨e1,e2⟩
  ·simp only [if_pos e];rw[e];exact h7t
  ·simp only [if_neg e2];rw[ho q e1 e2 7 (by omega)];exact h.rw.p7 q e1
 ·rw[hc q] at hj ⊢;rcases lt q hq with e | ⟨e1,e2⟩
  ·simp only [if_pos e] at hj ⊢;exact hp j hj
  ·simp only [if_neg e2] at hj ⊢;exact(h.rw.p q e1 j hj).of λm _=>World.cell?_of_block (a:=⟨pb q,_,none⟩) (pf q e1 (h.rw.pw e1 (by omega)))
 ·rcases lt q hq with e | ⟨e1,e2⟩
  ·simp only [if_pos e] at hlq ⊢;obtain⟨a1,a2,a3,a4,a5⟩:=hN hlq;exact⟨a1,a2,⟨λe=>by have:=(h.rw.nr r0).1.1;omega,a5⟩,a4⟩
  ·simp only [if_neg e2] at hlq ⊢;obtain⟨a1,a2,a3,a4⟩:=h.rw.pl q e1 hlq;exact⟨a1,a0f a2 (pf q e1 hlq) hs,⟨a3.1,pne q e1 hlq⟩,a4⟩
 ·rcases lt q hq with e | ⟨e1,e2⟩
  ·have e':q'≠t:=λu=>hqq (by rw[e,u])
   rcases lt q' hq' with u | ⟨u1,u2⟩
   ·exact absurd u e'
   ·simp only [if_pos e,if_neg e'] at h1 h2 ⊢;have:=(h.rw.pl q' u1 h2).2.1.1;have:=(hN h1).2.2.1;omega
  ·rcases lt q' hq' with u | ⟨u1,u2⟩
   ·simp only [if_pos u,if_neg e2] at h1 h2 ⊢;have:=(h.rw.pl q e1 h1).2.1.1;have:=(hN h2).2.2.1;omega
   ·simp only [if_neg e2,if_neg u2] at h1 h2 ⊢;exact h.rw.dp q q' e1 u1 hqq h1 h2
 ·rw[hc q];rcases lt q hq with e | ⟨e1,e2⟩
  ·simp only [if_pos e];exact hkq
  ·simp only [if_neg e2];exact h.rw.kp q e1
 ·rw[ro g h.nf.1 (by rw[h.sp.g];omega)];exact h.sp.g
 ·rw[ro br (h.rw.nr hr).1.1 (by rw[h.sp.r hr];omega)];exact h.sp.r hr
 ·rw[ro q (h.gr.lt q hq).2 (by rw[h.sp.y q hq];omega)];exact h.sp.y q hq
 ·rcases lt q hq with e | ⟨e1,e2⟩
  ·simp only [if_pos e] at hlq ⊢;obtain⟨_,_,a3,_,a5⟩:=hN hlq;rw[if_neg a5,if_pos a3,e]
  ·simp only [if_neg e2] at hlq ⊢;rw[ro (pb q) (h.rw.pl q e1 hlq).2.1.1 (by rw[h.sp.p q e1 hlq];omega)];exact h.sp.p q e1 hlq
abbrev z6:Array Value:=#[iv 0,iv 0,iv 0,iv 0,iv 0,iv 0]
theorem made6(m j:Nat)(hj:j<m):(madeCells z6 m)[j]?=some (iv 0):=by
 have h6:j % 6<6:=Nat.mod_lt _ (by omega)
 have:([iv 0,iv 0,iv 0,iv 0,iv 0,iv 0]:List Value)[j % 6]?.getD default=iv 0:=by
  have:j % 6=0\/j % 6=1\/j % 6=2\/j % 6=3\/j % 6=4\/j % 6=5:=by omega
  rcases this with e | e | e | e | e | e <;> rw[e] <;> rfl
 simp [madeCells,hj];exact this
theorem c6j(n:Nat)(hn:n<=1048576)(w:World):(Instr.makeSlice 60 (.int .i64 n) (.int .i64 n)).run Tryz.prog w=.ok (.slice (some ⟨w.heap.size,0,none⟩) n n) (w.alloc (.cells (madeCells z6 (n*6)) 154)):=by
 obtain⟨i0,hi,hz0,hz1,hz2⟩:=info_parts a4i;have h:=run_make (P:=Tryz.prog) w 60 154 i0 _ Tryz.underlying60 hi hz0 .i64 .i64 n n (by omega) (Int.le_refl _) (by rw[hz2];omega) (by omega);rw[hz1] at h;simp only [Int.toNat_natCast] at h;exact h
structure a9f(w0 W:World)(qb n:Nat):Prop where
 lt:w0.heap.size<=qb
 nf:Nfp qb n W
 z:∀k,k<n->tL W qb (k*6) Pr0
theorem a9f.ext(h:a9f w0 W qb n)(e:Ext W W'):a9f w0 W' qb n:=⟨h.lt,h.nf.ext e,λk hk=>(h.z k hk).ext e⟩
theorem a9f.made(w0 w:World)(n:Nat)(t:TypeId)(e:Ext w0 w):a9f w0 (w.alloc (.cells (madeCells z6 (n*6)) t)) w.heap.size n:=by
 have hn:(w.alloc (.cells (madeCells z6 (n*6)) t)).heap[w.heap.size]?=some (.cells (madeCells z6 (n*6)) t):=heap_alloc_new w _;have cz:∀j,j<n*6->(w.alloc (.cells (madeCells z6 (n*6)) t)).cell? ⟨w.heap.size,j,none⟩=some (iv 0):=λj hj=>by rw[cell_of_row _ w.heap.size j _ _ (0,0) hn];exact made6 _ j hj
 exact⟨e.size,⟨by simp,λ_=>by simp [go_sem],λj hj=>⟨_,cz j hj⟩⟩,λk hk=>⟨cz _ (by omega),cz _ (by omega),cz _ (by omega),cz _ (by omega),cz _ (by omega),cz _ (by omega)⟩⟩
theorem a9f.only(h:a9f w0 W qb n)(o:uX S W W')(hS:¬S qb):a9f w0 W' qb n:=
 ⟨h.lt,a0f h.nf (o.block qb h.nf.1 hS) o.size,λk hk=>(h.z k hk).of λ_ _=>World.cell?_of_block (a:=⟨qb,_,none⟩) (o.block qb h.nf.1 hS)⟩
theorem rep_p(c:Cl)(m:Nat)(h:c.prs=List.replicate m Pr0)(k:Nat):c.p k=Pr0:=by
 unfold Cl.p;rw[h];by_cases e:k<m
 ·simp [e]
 ·simp [Nat.le_of_not_lt e]
theorem b9y[Inhabited uN](h:GAt B w0 g x ar kr ac kc vg br bc pb pa pk role)(r0:0<x.regs.length)(t:Nat)(ht:t<x.cells.length)(c':Cl)(m:Nat)(hm:c'.prs=List.replicate m Pr0)(W:World)(e:Ext w0 W)(qb:Nat)(np:a9f w0 W qb m):
  GOk B (qE W bc (t*8) c' (.slice (some ⟨qb,0,none⟩) m m)) g (b0c x t c'):=by
 have hn:0<x.cells.length:=by omega
 have hk:0<kc:=Nat.lt_of_lt_of_le hn h.kl;have cc:=h.cc hk;have g1:=h.ext e;have len:(a4q x t c').length=x.cells.length:=by rw[a6y,if_pos ht]
 have ml:c'.prs.length=m:=by rw[hm];simp
 have o:=a0h W bc (t*8) c' (.slice (some ⟨qb,0,none⟩) m m);have qne:qb≠bc:=λe=>by have:=np.lt;have:=cc.nf.1;omega
 have gne:g≠bc:=λe=>by have h1:=h.sp.g;have h2:=cc.ro;rw[e] at h1;omega
 have fg:=o.block g g1.nf.1 gne;obtain⟨k1,k2⟩:=a7t W bc (t*8) c' (x.c t) (.slice (some ⟨qb,0,none⟩) m m) _ (g1.rw.s t ht) (g1.rw.p7 t ht);have ot:=a2w W bc (t*8) c' (.slice (some ⟨qb,0,none⟩) m m);have np2:=np.only o qne;refine⟨_,_,_,_,_,_,_,_,_,_,_,h.newc r0 t (Nat.le_of_lt ht) c' bc kc qb (some ⟨qb,0,none⟩) m (Nat.le_trans e.size o.size) (.inl ⟨rfl,hk⟩) (λq hq h1 h2=>(o.block q (Nat.lt_of_lt_of_le hq e.size) h2).trans (e.block q hq)) (hY g1.nf fg o.size) ?_ (a4o (g1.cc hk).nf _ _ _) (λj hj=>?_) cc.lo (by rw[len];exact h.kl) k1 (by rw[ml];exact k2) (λq hq h1 j hj=>?_) (λk hk=>?_) (by rw[ml];exact Nat.le_refl _) (λhq=>⟨rfl,np2.nf,np2.lt,by have:=cc.lo;have:=cc.nf.1;have:=np.lt;omega,qne⟩)⟩
 ·have:=(g1.bx.block fg);rw[cc.ad] at this;rw[len];exact this
 ·by_cases u:j<t*8\/t*8+8<=j
  ·rw[ot j u];exact(g1.cc hk).cp j hj
  ·by_cases u7:j=t*8+7
   ·rw[u7];exact⟨_,k2⟩
   ·have:=k1.some (j-t*8) (by omega);rw[show t*8+(j-t*8)=j by omega] at this;exact this
 ·rw[ot _ (by omega)];exact(cZ e).1 bc _ cc.nf.1
 ·rw[rep_p c' m hm k];exact np2.z k (by omega)
structure AppC[Inhabited uN](B g:Nat)(x:Hp)(c':Cl)(v w:World)(b' k':Nat)(w':World):Prop where
 gk:∀W,Ext w' W->GOk B (W.setCell ⟨g,4,none⟩ (.slice (some ⟨b',0,none⟩) (x.cells.length+1) k')) g (b0c x x.cells.length c')
 far:w'.heap[g]?=w.heap[g]?
 sz:w.heap.size<=w'.heap.size
 ex:Ext v w'
theorem cell_fC{w:World}{b o:Nat}{c:Cl}{u:Value}(s:S7 w b o c)(p:w.cell? ⟨b,o+7,none⟩=some u)(j:Nat)(hj:j<8):w.cell? ⟨b,o+j,none⟩=(fC (c,u))[j]?:=by
 obtain⟨h0,h1,h2,h3,h4,h5,h6⟩:=s
 match j,hj with
 | 0,_=>exact h0
 | 1,_=>exact h1
 | 2,_=>exact h2
 | 3,_=>exact h3
 | 4,_=>exact h4
 | 5,_=>exact h5
 | 6,_=>exact h6
 | 7,_=>exact p
def a7i(x:Hp)(pa:Nat->Option Addr)(pk:Nat->Nat):List (Cl×Value):=(List.range x.cells.length).map (λq=>(x.c q,.slice (pa q) (x.c q).prs.length (pk q)))
theorem c6m(x:Hp)(pa:Nat->Option Addr)(pk:Nat->Nat):(a7i x pa pk).length=x.cells.length:=by simp [a7i]
theorem c1j(x:Hp)(pa:Nat->Option Addr)(pk:Nat->Nat)(q:Nat)(hq:q<(a7i x pa pk).length):(a7i x pa pk)[q]=(x.c q,.slice (pa q) (x.c q).prs.length (pk q)):=by simp [a7i]
theorem c6n[Inhabited uN]{B:Nat}{w0:World}{g:Nat}{x:Hp}{ar:Option Addr}{kr:Nat}{ac:Option Addr}{kc:Nat}{vg:Value}{br bc:Nat}{pb:Nat->Nat}{pa:Nat->Option Addr}{pk:Nat->Nat}{role:Nat->Nat}(h:GAt B w0 g x ar kr ac kc vg br bc pb pa pk role)(r0:0<x.regs.length)(n8:x.cells.length<=8000)(c':Cl)(m:Nat)(hm:c'.prs=List.replicate m Pr0)(qb:Nat)(ty:TypeId)(W1:World)(e1:Ext w0 W1)(np:a9f w0 W1 qb m)(ad:Addr)(c:Nat)(hz:∀j u,(fC (c',.slice (some ⟨qb,0,none⟩) m m))[j]?=some u->W1.cell? (ad.add j)=some u)(v:World)(hv:v.heap.size<=B)(hx:Ext v w0):
  ∃b' k' w',(Builtin.append_ #[31,31] ty #[.slice ac x.cells.length kc,.slice (some ad) 1 c]).run Tryz.prog W1=.ok (.slice (some ⟨b',0,none⟩) (x.cells.length+1) k') w'/\AppC B g x c' v w0 b' k' w':=by
 have g1:=h.ext e1;obtain⟨i0,hi0,hz0,hz1,hz2⟩:=info_parts a6u
 have one:∀u∈fC (c',.slice (some ⟨qb,0,none⟩) m m),u.oneCell'=true:=λu hu=>by
  simp [fC] at hu;rcases hu with rfl | rfl | rfl | rfl | rfl | rfl | rfl | rfl <;> rfl
 have len:(a4q x x.cells.length c').length=x.cells.length+1:=by rw[a6y,if_neg (by omega)]
 have ml:c'.prs.length=m:=by rw[hm];simp
 have hB0:B<=w0.heap.size:=Nat.le_trans h.lo (Nat.le_of_lt h.nf.1);by_cases hr:x.cells.length+1<=kc
 ·have hk:0<kc:=by omega
  have cc:=g1.cc hk
  have hrun:=run_append_room_cells (P:=Tryz.prog) W1 31 ty 62 i0 Tryz.underlying31 hi0 bc 0 x.cells.length kc ad 1 c (fC (c',.slice (some ⟨qb,0,none⟩) m m)) (by rw[hz1];rfl) hz one hr (λj hj=>by
   have hj:j<8:=hj;obtain⟨u,hu⟩:=cc.cp (0+x.cells.length*i0.size+j) (by rw[hz1];omega);rw[hu];rfl) (λj _=>cc.nf.2 _)
  rw[hz1,Nat.zero_add] at hrun;have oP:uX (λq=>q=bc) W1 (W1.setCells bc (x.cells.length*8) (fC (c',.slice (some ⟨qb,0,none⟩) m m))):=b1f (S:=λq=>q=bc) rfl (uX.refl _ W1);have gne:g≠bc:=λe=>by have h1:=h.sp.g;have h2:=cc.ro;rw[e] at h1;omega
  have fg:=oP.block g g1.nf.1 gne;have bw:bc<w0.heap.size:=(h.cc hk).nf.1;have qne:qb≠bc:=λe=>by have:=np.lt;omega
  refine⟨bc,kc,_,by rw[cc.ad];exact hrun,⟨λW e=>?_,fg.trans (e1.block g h.nf.1),Nat.le_trans e1.size oP.size,oP.ext (hx.trans e1) (λq hq e=>by have:=cc.lo;omega)⟩⟩;have oW:uX (λq=>q=bc) W1 W:=oP.trans (uX.of_ext e);have np2:=np.only oW qne;have cW:∀j,W.cell? ⟨bc,j,none⟩=(W1.setCells bc (x.cells.length*8) (fC (c',.slice (some ⟨qb,0,none⟩) m m))).cell? ⟨bc,j,none⟩:=λj=>(cZ e).1 bc j (Nat.lt_of_lt_of_le cc.nf.1 oP.size)
  have cS:∀j,(W.setCell ⟨g,4,none⟩ (.slice (some ⟨bc,0,none⟩) (x.cells.length+1) kc)).cell? ⟨bc,j,none⟩=(W1.setCells bc (x.cells.length*8) (fC (c',.slice (some ⟨qb,0,none⟩) m m))).cell? ⟨bc,j,none⟩:=λj=>(uC _ (.inl gne)).trans (cW j)
  have key:∀j,j<8->(W.setCell ⟨g,4,none⟩ (.slice (some ⟨bc,0,none⟩) (x.cells.length+1) kc)).cell? ⟨bc,x.cells.length*8+j,none⟩=(fC (c',.slice (some ⟨qb,0,none⟩) m m))[j]?:=λj hj=>(cS _).trans (b9w bc _ _ j W1 (λi hi=>cc.cp _ (by have:i<8:=hi;omega)) hj)
  have nfW:Nf1 bc W:=cc.nf.put.ext e;have qg:qb≠g:=λe=>by have:=np.lt;have:=h.nf.1;omega
  have npS:=np2.only (S:=λq=>q=g) (uX.setCell (S:=λq=>q=g) (uX.refl _ W) (p:=⟨g,4,none⟩) rfl (.slice (some ⟨bc,0,none⟩) (x.cells.length+1) kc)) qg;refine⟨_,_,_,_,_,_,_,_,_,_,_,h.newc r0 x.cells.length (Nat.le_refl _) c' bc kc qb (some ⟨qb,0,none⟩) m (by have:=oW.size;have:=e1.size;simp only [World.setCell,Array.size_modify];omega) (.inl ⟨rfl,hk⟩) (λq hq h1 h2=>(Below.heap_setCell _ _ _ _ h1).trans ((oW.block q (Nat.lt_of_lt_of_le hq e1.size) h2).trans (e1.block q hq))) ((hY g1.nf (oW.block g g1.nf.1 gne) oW.size).set _ _) ?_ (nfW.set _ _) (λj hj=>?_) cc.lo (by rw[len];exact hr) ⟨key 0 (by omega),key 1 (by omega),key 2 (by omega),key 3 (by omega),key 4 (by omega),key 5 (by omega),key 6 (by omega)⟩ (by rw[ml];exact key 7 (by omega)) (λq hq h1 j hj=>?_) (λk hk=>?_) (by rw[ml];exact Nat.le_refl _) (λhq=>⟨rfl,npS.nf,npS.lt,by have:=npS.lt;omega,qne⟩)⟩
  ·have:=(g1.bx.block (oW.block g g1.nf.1 gne)).set4 (.slice (some ⟨bc,0,none⟩) (x.cells.length+1) kc);rw[len];exact this
  ·by_cases u:j<x.cells.length*8\/x.cells.length*8+8<=j
   ·rw[cS,a9e bc _ _ _ W1 (by have:(fC (c',.slice (some ⟨qb,0,none⟩) m m)).length=8:=rfl;omega)];exact cc.cp j hj
   ·have:=key (j-x.cells.length*8) (by omega);rw[show x.cells.length*8+(j-x.cells.length*8)=j by omega] at this;rw[this];have hl:j-x.cells.length*8<(fC (c',.slice (some ⟨qb,0,none⟩) m m)).length:=by have:(fC (c',.slice (some ⟨qb,0,none⟩) m m)).length=8:=rfl;omega
    exact⟨_,List.getElem?_eq_getElem hl⟩
  ·rw[cS,a9e bc _ _ _ W1 (by omega)];exact(cZ e1).1 bc _ bw
  ·rw[rep_p c' m hm k];exact npS.z k (by omega)
 ·have RL:=c6m x pa pk;have rc:∀W,Ext w0 W->∀q,q<x.cells.length->∀j,j<8->W.cell? ⟨bc,q*8+j,none⟩=(fC (x.c q,.slice (pa q) (x.c q).prs.length (pk q)))[j]?:=λW e q hq j hj=>cell_fC ((h.ext e).rw.s q hq) ((h.ext e).rw.p7 q hq) j hj
  have grow:∃v' w',(Builtin.append_ #[31,31] ty #[.slice ac x.cells.length kc,.slice (some ad) 1 c]).run Tryz.prog W1=.ok v' w'/\w'.ownsRow W1.heap.size 62 8 v' (x.cells.length+1) ((a7i x pa pk).flatMap fC++fC (c',.slice (some ⟨qb,0,none⟩) m m))/\W1.grownBy w' none:=by
   have hmax:x.cells.length+1<=maxLen:=by unfold maxLen;omega
   cases ea:ac with
   | none=>
    have k0:kc=0:=by
     rcases Nat.eq_zero_or_pos kc with k0 | k0
     ·exact k0
     ·have:=(h.cc k0).ad;rw[ea] at this;cases this
    have n0:x.cells.length=0:=by have:=h.kl;omega
    have l0:a7i x pa pk=[]:=List.eq_nil_of_length_eq_zero (by rw[RL];exact n0);rw[k0,l0,n0];obtain⟨v',w',r1,r2,r3,_⟩:=run_append_own (P:=Tryz.prog) W1 W1.heap.size 31 ty 62 i0 _ 8 80 Tryz.underlying31 hi0 hz0 hz1 hz2 rfl (by decide) (.slice none 0 0) 0 [] (World.ownsRow_nil W1 _ _ _) ad 1 c (fC (c',.slice (some ⟨qb,0,none⟩) m m)) rfl hz one (by unfold maxLen;omega) (by decide) (Nat.le_refl _);exact⟨v',w',r1,r2,r3⟩
   | some b=>
    refine run_append_arg_grows (P:=Tryz.prog) W1 31 ty 62 i0 _ 8 80 Tryz.underlying31 hi0 hz0 hz1 hz2 rfl (by decide) b _ _ ((a7i x pa pk).flatMap fC) (by rw[a4j fC 8 (λ_=>rfl),RL]) (λj u hu=>?_) ad 1 c (fC (c',.slice (some ⟨qb,0,none⟩) m m)) rfl hz (by omega) hmax (by omega)
    have hj:j<((a7i x pa pk).flatMap fC).length:=by
     rcases Nat.lt_or_ge j ((a7i x pa pk).flatMap fC).length with q | q
     ·exact q
     ·rw[List.getElem?_eq_none q] at hu;cases hu
    rw[a4j fC 8 (λ_=>rfl),RL] at hj;have hb:=h.hc (by omega);rw[ea] at hb;have hb:=Option.some.inj hb;rw[hb];exact a6v fC 8 (by omega) (λ_=>rfl) (a7i x pa pk) bc 0 (λi hi k hk=>by rw[Nat.zero_add,c1j x pa pk i hi];exact rc W1 e1 i (by rw[RL] at hi;exact hi) k hk) j u hu
  obtain⟨v',w',hrun,hown,hgr⟩:=grow;have eg:Ext W1 w':=⟨hgr.os,hgr.tape,hgr.output,hgr.size,λk hk=>hgr.block k hk (by simp)⟩;have vk:0<yC v':=by have:=b4u hown;omega
  obtain⟨o1,o2,o3,o4,o5⟩:=c5e hown vk;have vf:v'=.slice (some ⟨qQ v',0,none⟩) (x.cells.length+1) (yC v'):=by rw[<-o1];exact(a0k hown).1
  have hown2:w'.ownsRow W1.heap.size 62 8 v' (a7i x pa pk++[(c',Value.slice (some ⟨qb,0,none⟩) m m)]).length ((a7i x pa pk++[(c',Value.slice (some ⟨qb,0,none⟩) m m)]).flatMap fC):=by
   rw[List.length_append,RL,List.flatMap_append]
   simpa using hown
  have cz:=a7q (f:=fC) (λ_=>rfl) hown2;have hll:(a7i x pa pk++[(c',Value.slice (some ⟨qb,0,none⟩) m m)]).length=x.cells.length+1:=by rw[List.length_append,RL];rfl
  refine⟨qQ v',yC v',w',by rw[<-vf];exact hrun,⟨λW e=>?_,(eg.block g g1.nf.1).trans (e1.block g h.nf.1),Nat.le_trans e1.size eg.size,(hx.trans e1).trans eg⟩⟩;obtain⟨b',hb'⟩:∃b',b'=qQ v':=⟨_,rfl⟩;rw[<-hb'] at o3 o4 o5 cz ⊢;have gb:g≠b':=λe=>by have:=g1.nf.1;omega
  have cS:∀j,(W.setCell ⟨g,4,none⟩ (.slice (some ⟨b',0,none⟩) (x.cells.length+1) (yC v'))).cell? ⟨b',j,none⟩=w'.cell? ⟨b',j,none⟩:=λj=>(uC _ (.inl gb)).trans ((cZ e).1 b' j o3.1)
  have key:∀j,j<8->(W.setCell ⟨g,4,none⟩ (.slice (some ⟨b',0,none⟩) (x.cells.length+1) (yC v'))).cell? ⟨b',x.cells.length*8+j,none⟩=(fC (c',.slice (some ⟨qb,0,none⟩) m m))[j]?:=λj hj=>by
   rw[cS,cz x.cells.length (by omega) j hj];have:(a7i x pa pk++[(c',Value.slice (some ⟨qb,0,none⟩) m m)])[x.cells.length]'(by omega)=(c',Value.slice (some ⟨qb,0,none⟩) m m):=by rw[List.getElem_append_right (by omega)];simp [RL]
   rw[this]
  have eW:Ext W1 W:=eg.trans e;have qg:qb≠g:=λe=>by have:=np.lt;have:=h.nf.1;omega
  have npS:=(np.ext eW).only (S:=λq=>q=g) (uX.setCell (S:=λq=>q=g) (uX.refl _ W) (p:=⟨g,4,none⟩) rfl (.slice (some ⟨b',0,none⟩) (x.cells.length+1) (yC v'))) qg;have hBb:B<=b':=by have:=e1.size;omega
  refine⟨_,_,_,_,_,_,_,_,_,_,_,h.newc r0 x.cells.length (Nat.le_refl _) c' b' (yC v') qb (some ⟨qb,0,none⟩) m (by have:=eW.size;have:=e1.size;simp only [World.setCell,Array.size_modify];omega) (.inr (by have:=e1.size;omega)) (λq hq h1 h2=>(Below.heap_setCell _ _ _ _ h1).trans ((e1.trans eW).block q hq)) ((g1.nf.ext eW).set _ _) ?_ ((o3.ext e).set _ _) (λj hj=>?_) hBb (by rw[len];exact b4u hown) ⟨key 0 (by omega),key 1 (by omega),key 2 (by omega),key 3 (by omega),key 4 (by omega),key 5 (by omega),key 6 (by omega)⟩ (by rw[ml];exact key 7 (by omega)) (λq hq h1 j hj=>?_) (λk hk=>?_) (by rw[ml];exact Nat.le_refl _) (λhq=>⟨rfl,npS.nf,npS.lt,by have:=npS.lt;omega,λe=>by have:=np.nf.1;omega⟩)⟩
  ·have:=(g1.bx.ext eW).set4 (.slice (some ⟨b',0,none⟩) (x.cells.length+1) (yC v'));rw[len];exact this
  ·rw[cS];exact o4 j hj
  ·rw[cS,cz q (by omega) j hj];have:(a7i x pa pk++[(c',Value.slice (some ⟨qb,0,none⟩) m m)])[q]'(by omega)=(x.c q,.slice (pa q) (x.c q).prs.length (pk q)):=by rw[List.getElem_append_left (by omega)];exact c1j x pa pk q (by omega)
   rw[this];exact(rc w0 (Ext.refl _) q hq j hj).symm
  ·rw[rep_p c' m hm k];exact npS.z k (by omega)
theorem c3h[Inhabited uN]{ops:Array Oper}{o:Oper}{a:Act}{K:Act->World->Prop}{Q:Exit->Act->World->Prop}{E:Prop}(W1:World)(hgd:o.guard=none)(s y:Operand)
  (ho:o.op=.call { callee:=.builtin .append,args:=#[s,y],argTypes:=#[31,31] })
                (h:GAt B w0 g x ar kr ac kc vg br bc pb pa pk role) (r0:0<x.regs.length) (n8:x.cells.length<=8000) (c':Cl) (m:Nat) (hm:c'.prs=List.replicate m Pr0) (qb:Nat) (e1:Ext w0 W1) (np:a9f w0 W1 qb m) (ad:Addr) (c:Nat)
  (hs:a.eval s=.slice ac x.cells.length kc) (hy:a.eval y=.slice (some ad) 1 c) (hz:∀j u,(fC (c',.slice (some ⟨qb,0,none⟩) m m))[j]?=some u->W1.cell? (ad.add j)=some u) (v:World) (hv:v.heap.size<=B) (hx:Ext v w0)
  (hK:∀b' k' w',AppC B g x c' v w0 b' k' w'->K (a.put o.dst (.slice (some ⟨b',0,none⟩) (x.cells.length+1) k')) w') :
  if Region.wanted o (yielded ops a.tmps)=true then Oper.wp Tryz.prog o a W1 K Q else E:=by
 have hw:Region.wanted o (yielded ops a.tmps)=true:=by simp [Region.wanted,hgd]
 rw[if_pos hw];obtain⟨b',k',w',hr,h3⟩:=c6n h r0 n8 c' m hm qb o.type W1 e1 np ad c hz v hv hx;unfold Oper.wp execOp;simp only [ho,resolve,invoke,builtin,Sem.run_bind,Sem.run_pure,Result.andThen_ok,List.map_toArray,List.map_cons,List.map_nil,hs,hy,hr];exact hK b' k' w' h3
def a2r(x:Hp)(H:Nat->Bool)(k:Nat)(z:Hp):Hp:=
 if H k=true then { z with cells:=z.cells.set k (b3k x H (x.c k)),used:=z.used-tY x H (x.c k) (x.c k).prs,sub:=a2e x H k z.sub }
 else if (x.c k).last=1 then { z with cells:=z.cells.set k (b5k (x.c k)) } else z
def stTo(x:Hp)(H:Nat->Bool):Nat->Hp
 | 0=>x
 | k+1=>a2r x H k (stTo x H k)
def a3v(x y:Hp):Prop:=x.room=y.room/\x.born=y.born/\x.regs=y.regs/\x.phase=y.phase/\x.hand=y.hand/\x.gray=y.gray/\x.per=y.per/\x.start=y.start/\x.rounds=y.rounds/\x.forced=y.forced
theorem a3v.refl(x:Hp):a3v x x:=⟨rfl,rfl,rfl,rfl,rfl,rfl,rfl,rfl,rfl,rfl⟩
theorem hp_eq{y:Hp}(r:a3v x y)(hu:x.used=y.used)(hs:x.sub=y.sub)(hl:x.cells.length=y.cells.length)(hc:∀q,q<x.cells.length->x.c q=y.c q):x=y:=by
 have e:x.cells=y.cells:=List.ext_getElem hl λi h1 h2=>by rw[Hp.c_eq x i h1,Hp.c_eq y i h2];exact hc i h1
 obtain⟨r1,r2,r3,r4,r5,r6,r7,r8,r9,r10⟩:=r;cases x;cases y;simp only at *;subst r1 r2 r3 r4 r5 r6 r7 r8 r9 r10 hu hs e;rfl
theorem b0d(x:Hp)(H:Nat->Bool):∀k,a3v (stTo x H k) x
 | 0=>a3v.refl x
 | k+1=>by
  have ih:=b0d x H k;show a3v (a2r x H k (stTo x H k)) x;unfold a2r
  split
  ·exact ih
  ·split
   ·exact ih
   ·exact ih
theorem b2u(x:Hp)(H:Nat->Bool):∀k,a3v (cV x H k) x
 | 0=>a3v.refl x
 | k+1=>by
  have ih:=b2u x H k;unfold cV
  split
  ·exact ih
  ·exact ih
theorem b2v(x z:Hp)(H:Nat->Bool):∀k,a3v (zU x z H k) z/\(zU x z H k).used=z.used/\(zU x z H k).sub=z.sub
 | 0=>⟨a3v.refl z,rfl,rfl⟩
 | k+1=>by
  have ih:=b2v x z H k;unfold zU
  split
  ·exact ih
  ·exact ih
theorem a6h(x:Hp)(H:Nat->Bool):∀k,(stTo x H k).cells.length=x.cells.length
 | 0=>rfl
 | k+1=>by
  have ih:=a6h x H k;show(a2r x H k (stTo x H k)).cells.length=_;unfold a2r
  split
  ·simpa using ih
  ·split
   ·simpa using ih
   ·exact ih
theorem b7q(x:Hp)(H:Nat->Bool):∀k,(stTo x H k).used=(cV x H k).used/\(stTo x H k).sub=(cV x H k).sub
 | 0=>⟨rfl,rfl⟩
 | k+1=>by
  have ih:=b7q x H k;show(a2r x H k (stTo x H k)).used=_/\(a2r x H k (stTo x H k)).sub=_;unfold a2r cV;by_cases h:H k=true
  ·rw[if_pos h,if_pos h];exact⟨by show(stTo x H k).used-_=(cV x H k).used-_;rw[ih.1],by show a2e x H k (stTo x H k).sub=a2e x H k (cV x H k).sub;rw[ih.2]⟩
  ·rw[if_neg h,if_neg h]
   split
   ·exact ih
   ·exact ih
theorem set_c(z:Hp)(u s:Int)(k:Nat)(c:Cl)(hk:k<z.cells.length)(q:Nat):({ z with cells:=z.cells.set k c,used:=u,sub:=s }:Hp).c q=if q=k then c else z.c q:=Hp.c_set z k c hk q
theorem b9z(x:Hp)(H:Nat->Bool):∀k,k<=x.cells.length->∀q,(stTo x H k).c q=if q<k then stlC x H q else x.c q
 | 0,_,q=>by rw[if_neg (by omega)];rfl
 | k+1,hk,q=>by
  have ih:=b9z x H k (by omega) q;have hl:k<(stTo x H k).cells.length:=by rw[a6h];omega
  show(a2r x H k (stTo x H k)).c q=_
  have key:(a2r x H k (stTo x H k)).c q=if q=k then stlC x H k else (stTo x H k).c q:=by
   unfold a2r stlC;by_cases h:H k=true
   ·rw[if_pos h,if_pos h];exact set_c _ _ _ k _ hl q
   ·rw[if_neg h,if_neg h];by_cases h2:(x.c k).last=1
    ·rw[if_pos h2,if_pos h2];exact Hp.c_set _ k _ hl q
    ·rw[if_neg h2,if_neg h2];by_cases e:q=k
     ·subst e;rw[if_pos rfl,ih,if_neg (by omega)]
     ·rw[if_neg e]
  rw[key,ih];by_cases e:q=k
  ·subst e;rw[if_pos rfl,if_pos (by omega)]
  ·rw[if_neg e];by_cases h:q<k
   ·rw[if_pos h,if_pos (by omega)]
   ·rw[if_neg h,if_neg (by omega)]
theorem b7r(x z:Hp)(H:Nat->Bool):∀k,k<=z.cells.length->∀q,(zU x z H k).c q=if q<k/\a7h x H q=true then b5k (x.c q) else z.c q
 | 0,_,q=>by rw[if_neg (by omega)];rfl
 | k+1,hk,q=>by
  have ih:=b7r x z H k (by omega) q;have hl:k<(zU x z H k).cells.length:=by rw[a3j];omega
  unfold zU;by_cases h:a7h x H k=true
  ·rw[if_pos h];have:=Hp.c_set (zU x z H k) k (b5k (x.c k)) hl q;rw[this,ih];by_cases e:q=k
   ·subst e;rw[if_pos rfl,if_pos ⟨by omega,h⟩]
   ·rw[if_neg e];by_cases h2:q<k/\a7h x H q=true
    ·rw[if_pos h2,if_pos ⟨by omega,h2.2⟩]
    ·rw[if_neg h2,if_neg (λh3=>h2 ⟨by omega,h3.2⟩)]
  ·rw[if_neg h,ih];by_cases h2:q<k/\a7h x H q=true
   ·rw[if_pos h2,if_pos ⟨by omega,h2.2⟩]
   ·rw[if_neg h2,if_neg (λh3=>by
     by_cases e:q=k
     ·rw[e] at h3;exact h h3.2
     ·exact h2 ⟨by omega,h3.2⟩)]
theorem c6o(x:Hp)(H:Nat->Bool):stTo x H x.cells.length=a4e x H:=by
 have d:=b2v x (cV x H x.cells.length) H x.cells.length;have c:=b2u x H x.cells.length;have s:=b0d x H x.cells.length;have u:=b7q x H x.cells.length;have hlz:(cV x H x.cells.length).cells.length=x.cells.length:=a2a x H _;refine hp_eq ?_ (by rw[u.1];exact d.2.1.symm) (by rw[u.2];exact d.2.2.symm) ?_ λq hq=>?_
 ·obtain⟨d1,d2,d3,d4,d5,d6,d7,d8,d9,d10⟩:=d.1;obtain⟨c1,c2,c3,c4,c5,c6,c7,c8,c9,c10⟩:=c;obtain⟨s1,s2,s3,s4,s5,s6,s7,s8,s9,s10⟩:=s;exact⟨s1.trans (d1.trans c1).symm,s2.trans (d2.trans c2).symm,s3.trans (d3.trans c3).symm,s4.trans (d4.trans c4).symm,s5.trans (d5.trans c5).symm,s6.trans (d6.trans c6).symm,s7.trans (d7.trans c7).symm,s8.trans (d8.trans c8).symm,s9.trans (d9.trans c9).symm,s10.trans (d10.trans c10).symm⟩
 ·rw[a6h];unfold a4e;rw[a3j,a2a]
 ·have hq':q<x.cells.length:=by rw[a6h] at hq;exact hq
  rw[b9z x H _ (Nat.le_refl _) q,if_pos hq'];unfold a4e;rw[b7r x _ H _ (by rw[hlz];exact Nat.le_refl _) q,a9d x H _ (Nat.le_refl _) q];unfold stlC a7h;cases h:H q
  ·by_cases h2:(x.c q).last=1
   ·rw[if_neg (by simp),if_pos h2,if_pos ⟨hq',by simp [h2]⟩]
   ·rw[if_neg (by simp),if_neg h2,if_neg (by simp [h2]),if_neg (by simp)]
  ·rw[if_pos rfl,if_neg (by simp),if_pos ⟨hq',rfl⟩]
structure b1a(x z:Hp):Prop where
 hl:z.cells.length=x.cells.length
 rest:a3v z x
 c:∀q,(z.c q).st=(x.c q).st/\(z.c q).kind=(x.c q).kind/\(z.c q).born=(x.c q).born/\(z.c q).color=(x.c q).color/\(z.c q).to=(x.c q).to
 wk:∀q,(z.c q).weak=(x.c q).weak\/((x.c q).st=1/\0<=(z.c q).weak/\(z.c q).weak<=3)
 la:∀q,(z.c q).last=(x.c q).last\/((x.c q).st=1/\0<=(z.c q).last/\(z.c q).last<=3)
 sp:∀q,cY (z.c q)->cY (x.c q)
 p:∀q,q<x.cells.length->∀k,k<(z.c q).prs.length->∃j,j<(x.c q).prs.length/\(z.c q).p k=(x.c q).p j/\(dL x=(q:Int)->((k:Int)<z.sub↔(j:Int)<x.sub))
 le:∀q,q<x.cells.length->(z.c q).prs.length<=(x.c q).prs.length
 us:z.used=(dN z.cells:Nat)
 ul:z.used<=x.used
 s0:0<=z.sub/\z.sub<=x.sub
 s1:∀q,q<x.cells.length->dL x=(q:Int)->z.sub<=(z.c q).prs.length
theorem b4e(hp:x.phase=5)(h:x.hand<x.cells.length):dL x=x.hand:=by
 unfold dL;rw[if_neg (by omega),if_pos ⟨hp,h⟩]
theorem b4f(hp:x.phase=2)(h:0<x.gray.length):dL x=x.gray.getD 0 0:=by
 unfold dL;rw[if_pos ⟨hp,h⟩]
theorem Snd.thin {x z : Hp} (h : Snd x) (t : b1a x z) : Snd z := by
  obtain ⟨e1, e2, e3, e4, e5, e6, e7, e8, e9, e10⟩ := t.rest
  have dm : ∀ q, cU z q ↔ cU x q := λq => by unfold cU; rw [e4, e5, (t.c q).1, (t.c q).2.2.2.1]
  have ld : ∀ (y : Wd) (m m' : Prop), (m -> m') -> cN x y m -> cN z y m' := λy m m' hm l => ⟨by rw [t.hl]; exact l.1, λhk => by
    rw [(t.c _).1, dm]
    rcases l.2 hk with o | o
    · exact .inl ⟨o.1, hm o.2⟩
    · exact .inr o⟩
  have wh : ∀ y : Wd, cQ z y -> cQ x y := λy hy => ⟨hy.1, by rw [<- (t.c _).2.2.2.1]; exact hy.2⟩
  have mk : uE z ↔ uE x := by unfold uE; rw [e4]
  have s0 := t.s0
  have g0r : x.gray.length ≠ 0 -> 0 <= x.gray.getD 0 0 /\ x.gray.getD 0 0 < x.cells.length := λhg => by
    refine h.r5.2.2 _ ?_
    cases hgr : x.gray with
    | nil => rw [hgr] at hg; simp at hg
    | cons g G => simp
  refine ⟨?_, ⟨λq hq => ?_, λq hq h0 k hk => ?_⟩, ⟨t.us, ?_⟩, ⟨λi hi => ?_, λq hq => ⟨λd => ?_, λk hk => ?_⟩⟩, ⟨λhm => ?_, λq hq => ?_, λg hg => ?_⟩, ⟨λhp => ?_, λhp => ?_, λhp => ?_, λhp => ?_⟩, λhm q hq => ⟨λhb => ?_, λk hk => ?_⟩, λq hq => ?_⟩
  · have r := h.r1
    exact ⟨by rw [e1]; exact r.room, by rw [e3]; exact r.regs, by rw [t.hl, e1]; exact r.cells, by rw [e6, t.hl]; exact r.gray, by rw [e2]; exact r.born, by rw [e9]; exact r.rounds, by rw [e10]; exact r.forced, by rw [e7]; exact r.per, by rw [e8]; exact r.start, by rw [e4]; exact r.phase, by rw [e5, t.hl]; exact r.hand, by have := r.sub; omega⟩
  · rw [t.hl] at hq
    have ok := h.r2.1 q hq
    obtain ⟨c1, c2, c3, c4, c5⟩ := t.c q
    have l := t.le q hq
    have wk := t.wk q
    have la := t.la q
    unfold cE
    rcases ok with ⟨o, b, d⟩ | ⟨o, m⟩ | ⟨o, m⟩
    · refine .inl ⟨by rw [c1]; exact o, ?_, by rw [c5]; exact d⟩
      unfold yX at b ⊢
      omega
    · refine .inr (.inl ⟨by rw [c1]; exact o, ?_, by rw [e4]; exact m.2.1, by rw [c5]; exact m.2.2.1, by rw [c5]; exact m.2.2.2.1, by rw [c5, (t.c _).1]; exact m.2.2.2.2.1, λhp k hk => ?_⟩)
      · have b := m.1
        unfold yX at b ⊢
        omega
      · rw [(t.c k).1]
        rw [e4] at hp
        rw [c5] at hk
        exact m.2.2.2.2.2 hp k hk
    · refine .inr (.inr ⟨by rw [c1]; exact o, ?_⟩)
      unfold a2i at m ⊢
      rw [e2]
      omega
  · rw [t.hl] at hq
    rw [(t.c q).1] at h0
    rw [(t.c k).1, (t.c k).2.2.1, (t.c k).2.2.2.2, (t.c q).1, (t.c q).2.2.1, (t.c q).2.2.2.2]
    exact h.r2.2 q hq h0 k hk
  · rw [e1]; have := h.r3.2; have := t.ul; omega
  · have e : z.regs[i] = x.regs[i]'(by rw [<- e3]; exact hi) := by simp only [e3]
    rw [e]; exact ld _ _ _ id (h.r4.1 i (by rw [<- e3]; exact hi))
  · rw [t.hl] at hq
    exact (h.r4.2 q hq).1 ⟨(dm q).1 d.1, t.sp q d.2⟩
  · rw [t.hl] at hq
    obtain ⟨j, hj, ej, hs⟩ := t.p q hq k hk
    have ok := (h.r4.2 q hq).2 j hj
    rw [ej]
    have me : cX z q k -> cX x q j := λm => ⟨by rw [<- e4]; exact m.1, λhp => by
      have := m.2 (by rw [e4]; exact hp)
      rw [e5] at this
      rcases this with a | ⟨a, b⟩
      · exact .inl a
      · exact .inr ⟨a, (hs (by rw [b4e hp (by omega)]; exact a.symm)).1 b⟩⟩
    refine ⟨λd => ?_, λd => ?_⟩
    · rw [t.hl]; exact ok.1 ((dm q).1 d)
    · have := ok.2 (λd2 => d ((dm q).2 d2))
      exact ⟨ld _ _ _ (λa b => a (me b)) this.1, ld _ _ _ (λa b => a (me b)) this.2⟩
  · rw [e6]; exact h.r5.1 (λm => hm (mk.2 m))
  · rw [t.hl] at hq
    have o := h.r5.2.1 q hq
    unfold eE at o ⊢
    rw [(t.c q).2.2.2.1, e6, mk, e4, e5]
    exact o
  · rw [e6] at hg
    rw [t.hl]; exact h.r5.2.2 g hg
  · rw [e4] at hp
    have := h.r6.1 hp
    rw [e5]; omega
  · rw [e4] at hp
    have r := h.r6.2.1 hp
    rw [e5, e6]
    refine ⟨r.1, λhg => by have := r.2.1 hg; omega, λhg => ?_⟩
    have gr := g0r hg
    have e : z.g0 = x.g0 := by unfold Hp.g0; rw [e6]
    rw [e]
    refine t.s1 x.g0 (by unfold Hp.g0; omega) ?_
    rw [b4f hp (by omega)]
    unfold Hp.g0; omega
  · rw [e4] at hp
    have r := h.r6.2.2.1 hp
    have hh := h.r1.hand
    rw [e5, t.hl]
    refine ⟨λhq => ?_, λhq => ?_⟩
    · rw [(t.c _).1] at hq
      have := r.1 hq; omega
    · refine t.s1 _ (by omega) ?_
      rw [b4e hp (by omega)]; omega
  · rw [e4] at hp
    have := h.r6.2.2.2 hp
    omega
  · rw [t.hl] at hq
    refine (h.r7 (mk.1 hm) q hq).1 ⟨t.sp q hb.1, by rw [<- (t.c q).2.2.2.1]; exact hb.2.1, ?_⟩
    have := hb.2.2
    rw [e4, e5] at this
    exact this
  · rw [t.hl] at hq
    have o := (h.r7 (mk.1 hm) q hq).2
    have key : k < (z.c q).prs.length /\ ∀ j : Nat, (dL x = (q : Int) -> ((k : Int) < z.sub ↔ (j : Int) < x.sub)) -> j < (x.c q).prs.length -> j < cC x q := by
      unfold cC at hk
      rw [(t.c q).2.2.2.1, e4, e6] at hk
      split at hk
      · rename_i hc
        refine ⟨hk, λj _ hj => ?_⟩
        unfold cC; rw [if_pos hc]; exact hj
      · rename_i hc
        split at hk
        · rename_i hd
          have sc : dL x = (q : Int) := by rw [b4f hd.1 (by omega)]; exact hd.2.2
          have := t.s1 q hq sc
          refine ⟨by omega, λj hs _ => ?_⟩
          unfold cC; rw [if_neg hc, if_pos hd]
          have := (hs sc).1 (by omega)
          omega
        · omega
    obtain ⟨j, hj, ej, hs⟩ := t.p q hq k key.1
    rw [ej]
    have := o j (key.2 j hs hj)
    exact ⟨λw => this.1 (wh _ w), λw => this.2 (wh _ w)⟩
  · rw [t.hl] at hq
    rw [e4, e5, (t.c q).1]
    exact h.r8 q hq
structure Edit(x:Hp)(i:Nat)(c:Cl):Prop where
 hi:i<x.cells.length
 st:(x.c i).st=1
 nd:¬cU x i
 e:c.st=(x.c i).st/\c.kind=(x.c i).kind/\c.weak=(x.c i).weak/\c.born=(x.c i).born/\c.color=(x.c i).color/\c.to=(x.c i).to
 la:0<=c.last/\c.last<=3
 ln:c.prs.length=(x.c i).prs.length
 ld:∀k,k<c.prs.length->cN x (c.p k).key (¬cX x i k)/\cN x (c.p k).val (¬cX x i k)
 lk:uE x->∀k,k<cC x i->¬cQ x (c.p k).key/\¬cQ x (c.p k).val
 sp:cY c->uE x->c.color=0->¬(x.phase=2\/(i:Int)<x.hand)
theorem a2u(x:Hp)(i:Nat)(c:Cl)(hi:i<x.cells.length)(q:Nat):(dV x i c).c q=if q=i then c else x.c q:=Hp.c_set x i c hi q
theorem b0e(x:Hp)(i:Nat)(c:Cl):(dV x i c).cells.length=x.cells.length:=by simp [dV]
theorem Snd.edit(h:Snd x)(t:Edit x i c):Snd (dV x i c):=by
 obtain⟨e1,e2,e3,e4,e5,e6⟩:=t.e;have zc:=a2u x i c t.hi;have zl:=b0e x i c
 have sm:∀q,((dV x i c).c q).st=(x.c q).st/\((dV x i c).c q).born=(x.c q).born/\((dV x i c).c q).color=(x.c q).color/\((dV x i c).c q).to=(x.c q).to/\((dV x i c).c q).prs.length=(x.c q).prs.length:=λq=>by
  rw[zc q];by_cases e:q=i
  ·rw[if_pos e,e];exact⟨e1,e4,e5,e6,t.ln⟩
  ·rw[if_neg e];exact⟨rfl,rfl,rfl,rfl,rfl⟩
 have dm:∀q,cU (dV x i c) q↔cU x q:=λq=>by unfold cU;rw[(sm q).1,(sm q).2.2.1];exact Iff.rfl
 have ld:∀(y:Wd) (m:Prop),cN x y m->cN (dV x i c) y m:=λy m l=>⟨by rw[zl];exact l.1,λhk=>by rw[(sm _).1,dm];exact l.2 hk⟩
 have wh:∀y:Wd,cQ (dV x i c) y->cQ x y:=λy hy=>⟨hy.1,by rw[<-(sm _).2.2.1];exact hy.2⟩
 refine⟨?_,⟨λq hq=>?_,λq hq h0 k hk=>?_⟩,⟨?_,h.r3.2⟩,⟨λj hj=>ld _ _ (h.r4.1 j hj),λq hq=>?_⟩,⟨h.r5.1,λq hq=>?_,λg hg=>?_⟩,⟨h.r6.1,λhp=>?_,λhp=>?_,h.r6.2.2.2⟩,λhm q hq=>?_,λq hq=>?_⟩
 ·exact⟨h.r1.room,h.r1.regs,by rw[zl];exact h.r1.cells,by rw[zl];exact h.r1.gray,h.r1.born,h.r1.rounds,h.r1.forced,h.r1.per,h.r1.start,h.r1.phase,by rw[zl];exact h.r1.hand,h.r1.sub⟩
 ·rw[zl] at hq;have ok:=h.r2.1 q hq;by_cases e:q=i
  ·subst e;refine .inr (.inr ⟨by rw[(sm q).1];exact t.st,?_⟩);rw[zc q,if_pos rfl];have la:=t.la;have ln:=t.ln;have s1:=t.st;rcases ok with o | o | ⟨_,o⟩
   ·omega
   ·omega
   ·unfold a2i at o ⊢;have:(dV x q c).born=x.born:=rfl;omega
  ·unfold cE;rw[zc q,if_neg e];rcases ok with o | ⟨o,m⟩ | o
   ·exact .inl o
   ·refine .inr (.inl ⟨o,m.1,m.2.1,m.2.2.1,m.2.2.2.1,by rw[(sm _).1];exact m.2.2.2.2.1,λhp k hk=>by rw[(sm k).1];exact m.2.2.2.2.2 hp k hk⟩)
   ·exact .inr (.inr o)
 ·rw[zl] at hq;rw[(sm q).1] at h0;rw[(sm k).1,(sm k).2.1,(sm k).2.2.2.1,(sm q).1,(sm q).2.1,(sm q).2.2.2.1];exact h.r2.2 q hq h0 k hk
 ·have u:dN (dV x i c).cells=dN x.cells:=a3g x.cells i c t.hi (by rw[Hp.c_eq x i t.hi];unfold cH;rw[e1,t.ln]);rw[u];exact h.r3.1
 ·rw[zl] at hq;rw[zc q];by_cases e:q=i
  ·subst e;rw[if_pos rfl];refine⟨λd=>t.nd ((dm q).1 d.1),λk hk=>⟨λd=>absurd ((dm q).1 d) t.nd,λ_=>?_⟩⟩;have:=t.ld k hk;exact⟨ld _ _ this.1,ld _ _ this.2⟩
  ·rw[if_neg e];have o:=h.r4.2 q hq;refine⟨λd=>o.1 ⟨(dm q).1 d.1,d.2⟩,λk hk=>?_⟩;have p:=o.2 k hk;refine⟨λd=>by rw[zl];exact p.1 ((dm q).1 d),λd=>?_⟩;have:=p.2 (λd2=>d ((dm q).2 d2));exact⟨ld _ _ this.1,ld _ _ this.2⟩
 ·rw[zl] at hq;have o:=h.r5.2.1 q hq;unfold eE at o ⊢;rw[(sm q).2.2.1];exact o
 ·rw[zl];exact h.r5.2.2 g hg
 ·have r:=h.r6.2.1 hp;refine⟨r.1,r.2.1,λhg=>?_⟩;rw[(sm _).2.2.2.2];exact r.2.2 hg
 ·have r:=h.r6.2.2.1 hp;rw[zl,(sm _).1,(sm _).2.2.2.2];exact r
 ·rw[zl] at hq;have o:=h.r7 hm q hq
  have lk:cC (dV x i c) q=cC x q:=by
   unfold cC;rw[(sm q).2.2.1,(sm q).2.2.2.2];rfl
  rw[lk,zc q];by_cases e:q=i
  ·subst e;rw[if_pos rfl];refine⟨λhb=>t.sp hb.1 hm hb.2.1 hb.2.2,λk hk=>?_⟩;have:=t.lk hm k hk;exact⟨λw=>this.1 (wh _ w),λw=>this.2 (wh _ w)⟩
  ·rw[if_neg e];exact⟨o.1,λk hk=>⟨λw=>(o.2 k hk).1 (wh _ w),λw=>(o.2 k hk).2 (wh _ w)⟩⟩
 ·rw[zl] at hq;rw[(sm q).1];exact h.r8 q hq
theorem b2w(x:Hp)(i t:Nat)(c:Cl)(hi:i<x.cells.length)(hs:c.st=(x.c i).st)(hc:c.color=(x.c i).color):uV (dV x i c) t=dV (uV x t) i (if qU x t=true/\t=i then tN c else c):=by
 have zc:=a2u x i c hi t
 have eb:qU (dV x i c) t=qU x t:=by
  unfold qU whB;rw[zc];by_cases e:t=i
  ·rw[if_pos e,e,hs,hc];rfl
  ·rw[if_neg e];rfl
 unfold uV;rw[eb];by_cases q:qU x t=true
 ·rw[if_pos q,if_pos q,zc];by_cases e:t=i
  ·rw[if_pos e,if_pos ⟨q,e⟩,e];simp [dV]
  ·rw[if_neg e,if_neg (λh=>e h.2)];simp only [dV];rw[List.set_comm _ _ (λh=>e h.symm)]
 ·rw[if_neg q,if_neg q,if_neg (λh=>q h.1)]
theorem a6i(hm:¬uE x)(t:Nat):uV x t=x:=by
 unfold uV;rw[if_neg];intro h;exact hm (a5a h).1
theorem cN.shade{y:Wd}{m:Prop}(h:cN x y m)(t:Nat)(ht:t<x.cells.length):cN (uV x t) y m:=by
 by_cases hm:uE x
 ·refine⟨by rw[(dH x t).2.2.2.2.1];exact h.1,λhk=>?_⟩;rw[(a0m (a5v x t ht _)).1];rcases h.2 hk with o | o
  ·exact .inl o
  ·refine .inr ⟨o.1,λd=>?_⟩;have:=d.1;rw[(dH x t).2.2.2.2.2.1] at this;unfold uE at hm;omega
 ·rw[a6i hm];exact h
theorem Snd.put(h:Snd x)(i k:Nat)(hi:i<x.cells.length)(s1:(x.c i).st=1)(nd:¬cU x i)(hk:k<(x.c i).prs.length)(y:Wd)(hy:cN x y False)(p:Pr)(hp:(p.key=y/\p.val=((x.c i).p k).val)\/(p.val=y/\p.key=((x.c i).p k).key)):Snd (uY (dV x i { x.c i with prs:=(x.c i).prs.set k p }) y):=by
 have pk:∀j,j<(x.c i).prs.length->({ x.c i with prs:=(x.c i).prs.set k p }:Cl).p j=if j=k then p else (x.c i).p j:=λj hj=>by
  unfold Cl.p;simp only [List.getD_eq_getElem?_getD,List.getElem?_set];by_cases e:k=j
  ·rw[if_pos e,if_pos e.symm,if_pos (by omega)];rfl
  ·rw[if_neg e,if_neg (λh=>e h.symm)]
 have key:∀(z:Hp) (c:Cl),Snd z->z.cells.length=x.cells.length->(∀q,(z.c q).st=(x.c q).st)->(z.c i).prs=(x.c i).prs->z.phase=x.phase->z.hand=x.hand->z.sub=x.sub->¬cU z i->(∀(u:Wd) (m:Prop),cN x u m->cN z u m)->(uE z->¬cQ z y)->c={ z.c i with prs:=(x.c i).prs.set k p }->Snd (dV z i c):=λz c sz zl zs zp e4 e5 e7 ndz ldz wz ec=>by
  have me:∀j,cX z i j↔cX x i j:=λj=>by unfold cX;rw[e4,e5,e7]
  have cp:∀j,c.p j=({ x.c i with prs:=(x.c i).prs.set k p }:Cl).p j:=λj=>by rw[ec];rfl
  have la:0<=(z.c i).last/\(z.c i).last<=3:=by
   have ok:=sz.r2.1 i (by rw[zl];exact hi);have:=zs i;unfold cE a2i yX eD yX at ok;omega
  refine sz.edit ⟨by rw[zl];exact hi,by rw[zs];exact s1,ndz,by rw[ec];exact⟨rfl,rfl,rfl,rfl,rfl,rfl⟩,by rw[ec];exact la,by rw[ec,zp];simp,λj hj=>?_,λhm j hj=>?_,λhsp hm hc=>?_⟩
  ·have hj2:j<(x.c i).prs.length:=by rw[ec] at hj;simpa using hj
   have o:=((h.r4.2 i hi).2 j hj2).2 nd;have em:(¬cX z i j)=(¬cX x i j):=propext (not_congr (me j));rw[em,cp j,pk j hj2];have hyl:∀m,cN x y m:=λm=>⟨hy.1,λe=>by rcases hy.2 e with o | o;exact o.2.elim;exact .inr o⟩
   by_cases e:j=k
   ·rw[if_pos e];rw[e] at o;rcases hp with⟨a,b⟩ | ⟨a,b⟩
    ·rw[a,b,e];exact⟨ldz _ _ (hyl _),ldz _ _ o.2⟩
    ·rw[a,b,e];exact⟨ldz _ _ o.1,ldz _ _ (hyl _)⟩
   ·rw[if_neg e];exact⟨ldz _ _ o.1,ldz _ _ o.2⟩
  ·have o:=(sz.r7 hm i (by rw[zl];exact hi)).2 j hj
   have hj2:j<(x.c i).prs.length:=by
    unfold cC at hj;rw[zp] at hj
    split at hj
    ·exact hj
    ·split at hj
     ·rename_i hd;have r:=(sz.r6.2.1 hd.1).2.2 hd.2.1;have eg:z.g0=i:=by unfold Hp.g0;rw[hd.2.2];simp
      rw[eg,zp] at r;omega
     ·omega
   have zpj:(z.c i).p j=(x.c i).p j:=by simp only [Cl.p,zp]
   rw[zpj] at o;rw[cp j,pk j hj2];by_cases e:j=k
   ·rw[if_pos e];rw[e] at o;rcases hp with⟨a,b⟩ | ⟨a,b⟩
    ·rw[a,b];exact⟨wz hm,o.2⟩
    ·rw[a,b];exact⟨o.1,wz hm⟩
   ·rw[if_neg e];exact o
  ·rw[ec] at hsp hc;exact λhd=>(sz.r7 hm i (by rw[zl];exact hi)).1 ⟨hsp,hc,hd⟩
 unfold uY;by_cases e:(y.k == 2)=true
 ·rw[if_pos e];have e2:y.k=2:=by simpa using e
  have ft:y.a.toNat<x.cells.length:=by have:=hy.1;unfold uK at this;omega
  have st:(x.c y.a.toNat).st=1:=by
   rcases hy.2 e2 with o | o
   ·exact o.2.elim
   ·exact o.1
  rw[b2w x i y.a.toNat { x.c i with prs:=(x.c i).prs.set k p } hi rfl rfl];have un:=a5v x y.a.toNat ft;refine key (uV x y.a.toNat) _ (h.shade _ ft) (dH x _).2.2.2.2.1 (λq=>(a0m (un q)).1) (a0m (un i)).2.2.2.2.2.2 (dH x _).2.2.2.2.2.1 (dH x _).2.2.2.2.2.2.1 (dH x _).2.2.2.2.2.2.2.1 (λd=>?_) (λu m l=>l.shade _ ft) (λhm w=>?_) ?_
  ·by_cases hm:uE x
   ·have:=d.1;rw[(dH x _).2.2.2.2.2.1] at this;unfold uE at hm;omega
   ·rw[a6i hm] at d;exact nd d
  ·have hm2:uE x:=by unfold uE at hm ⊢;rw[(dH x _).2.2.2.2.2.1] at hm;exact hm
   exact a1r x _ ft hm2 st w.2
  ·rw[a6x x _ ft i];by_cases q:qU x y.a.toNat=true/\y.a.toNat=i
   ·rw[if_pos q,if_pos ⟨q.1,q.2.symm⟩,q.2];rfl
   ·rw[if_neg q,if_neg (λh=>q ⟨h.1,h.2.symm⟩)]
 ·rw[if_neg e];have e2:y.k≠2:=by simpa using e
  exact key x _ h rfl (λ_=>rfl) rfl rfl rfl rfl nd (λ_ _ l=>l) (λ_ w=>e2 w.1) rfl
theorem Snd.want(h:Snd x)(i:Nat)(hi:i<x.cells.length)(s1:(x.c i).st=1)(nd:¬cU x i):Snd (uV (dV x i (a2f (x.c i) 1)) i):=by
 rw[b2w x i i (a2f (x.c i) 1) hi rfl rfl];have un:=a5v x i hi i;have hc:=a6x x i hi i;have sz:=h.shade i hi;have zl:=(dH x i).2.2.2.2.1
 have ec:(if qU x i=true/\i=i then tN (a2f (x.c i) 1) else a2f (x.c i) 1)=a2f ((uV x i).c i) 1:=by
  rw[hc];by_cases q:qU x i=true
  ·rw[if_pos ⟨q,rfl⟩,if_pos ⟨q,rfl⟩];rfl
  ·rw[if_neg (λh=>q h.1),if_neg (λh=>q h.1)]
 rw[ec];have s2:((uV x i).c i).st=1:=by rw[(a0m un).1];exact s1
 have nd2:¬cU (uV x i) i:=λd=>by
  by_cases hm:uE x
  ·have:=d.1;rw[(dH x _).2.2.2.2.2.1] at this;unfold uE at hm;omega
  ·rw[a6i hm] at d;exact nd d
 refine sz.edit ⟨by rw[zl];exact hi,s2,nd2,⟨rfl,rfl,rfl,rfl,rfl,rfl⟩,⟨by simp [a2f],by simp [a2f]⟩,rfl,λk hk=>((sz.r4.2 i (by rw[zl];exact hi)).2 k hk).2 nd2,λhm k hk=>(sz.r7 hm i (by rw[zl];exact hi)).2 k hk,λ_ hm hcol=>?_⟩;have hm2:uE x:=by unfold uE at hm ⊢;rw[(dH x _).2.2.2.2.2.1] at hm;exact hm
 exact absurd hcol (a1r x i hi hm2 s1)
structure Cpl(w w4 wr:World)(x:Hp)(vr vc vg:Value)(pv vp:Nat->Value)(k:Nat):Prop where
 bx:dW wr w.heap.size x vr vc vg
 s:∀q,q<x.cells.length->S7 wr (qQ vc) (q*8) (x.c q)
 p7:∀q,q<x.cells.length->wr.cell? ⟨qQ vc,q*8+7,none⟩=some (if q<k then pv q else vp q)
 pr:∀q,q<x.cells.length->q<k->wr.ownsRow w4.heap.size 154 6 (pv q) (x.c q).prs.length ((x.c q).prs.flatMap fP)
 dp:∀q q',q<k->q'<k->q≠q'->∀b,(pv q).ownBlock=some b->(pv q').ownBlock≠some b
 on:uX (λq=>q=qQ vc/\0<x.cells.length) w4 wr
 nf:0<x.cells.length->Nf1 (qQ vc) wr
theorem Cpl.step{wr w5:World}{v':Value}{pv vp:Nat->Value}{k:Nat}(h:Cpl w w4 wr x vr vc vg pv vp k)(hk:k<x.cells.length)(hvc:w.heap.size+2<=qQ vc/\qQ vc<w4.heap.size)(e:Ext wr w5)(ho:w5.ownsRow wr.heap.size 154 6 v' (x.c k).prs.length ((x.c k).prs.flatMap fP)):
  Cpl w w4 (w5.setCell ⟨qQ vc,k*8+7,none⟩ v') x vr vc vg (λq=>if q=k then v' else pv q) vp (k+1):=by
 have h4:=h.on.size;have far:∀b,b≠qQ vc->(w5.setCell ⟨qQ vc,k*8+7,none⟩ v').heap[b]?=w5.heap[b]?:=λb hb=>Below.heap_setCell _ _ _ _ hb
 refine⟨(h.bx.ext e).far _ _ _ (.inl (by omega)),λq hq=>?_,λq hq=>?_,λq hq hqk=>?_,λq q' hq hq' hne b hb=>?_,?_,λhn=>((h.nf hn).ext e).set _ _⟩
 ·refine(h.s q hq).of λj hj=>?_
  rw[uC _ (.inr (by omega))];exact e.cell (p:=⟨qQ vc,_,none⟩) (by show qQ vc<_;omega)
 ·by_cases hqk:q=k
  ·subst hqk;rw[if_pos (by omega),if_pos rfl];exact World.cell?_setCell_same _ _ _ (e.keep (h.p7 q hq))
  ·rw[uC _ (.inr (by omega)),if_neg hqk];have:=e.keep (h.p7 q hq);rw[this];by_cases hlt:q<k
   ·rw[if_pos hlt,if_pos (by omega)]
   ·rw[if_neg hlt,if_neg (by omega)]
 ·by_cases hqe:q=k
  ·subst hqe;simp only [if_pos];exact a3m (uQ ho (λb hb=>far b (by have:=(ho.lt b hb).1;omega))) h4
  ·simp only [if_neg hqe];have hq2:=h.pr q hq (by omega);exact uQ hq2 (λb hb=>(far b (by have:=(hq2.lt b hb).1;omega)).trans (e.block b (hq2.lt b hb).2))
 ·by_cases h1:q=k <;> by_cases h2:q'=k
  ·omega
  ·rw[if_pos h1] at hb;rw[if_neg h2];intro hb';have:=(ho.lt b hb).1;have:=((h.pr q' (by omega) (by omega)).lt b hb').2;omega
  ·rw[if_neg h1] at hb;rw[if_pos h2];intro hb';have:=(ho.lt b hb').1;have:=((h.pr q (by omega) (by omega)).lt b hb).2;omega
  ·rw[if_neg h1] at hb;rw[if_neg h2];exact h.dp q q' (by omega) (by omega) hne b hb
 ·exact(h.on.trans (uX.of_ext e)).setCell ⟨rfl,by omega⟩ _
theorem CvAt.ext{w w':World}(e:Ext w w'){b o:Nat}{z:Cl×Value}(h:CvAt w b o z):CvAt w' b o z:=λj hj=>by
 have:=h j hj;cases hc:(fC z)[j]? with
 | none=>match j,hj with | 0,_ | 1,_ | 2,_ | 3,_ | 4,_ | 5,_ | 6,_ | 7,_=>simp [fC] at hc
 | some y=>rw[hc] at this;exact e.keep this
theorem Cpl.start{v4:Value}{L:List (Cl×Value)}(hL:L.map (·.1)=x.cells)(hb:dW w4 w.heap.size x vr v4 vg)(ho:w4.ownsRow B 62 8 vc L.length (L.flatMap fC))(hB:w.heap.size<B):
  Cpl w (w4.setCell ⟨w.heap.size,4,none⟩ vc) (w4.setCell ⟨w.heap.size,4,none⟩ vc) x vr vc vg (λ_=>.slice none 0 0) (λq=>(L.getD q (Cl0,.slice none 0 0)).2) 0:=by
 have hLl:L.length=x.cells.length:=by rw[<-hL,List.length_map]
 have hc:∀q,q<x.cells.length->∀j,j<8->(w4.setCell ⟨w.heap.size,4,none⟩ vc).cell? ⟨qQ vc,q*8+j,none⟩=(fC (L.getD q (Cl0,.slice none 0 0)))[j]?:=λq hq j hj=>by
  have h1:=a9n ho (by omega);rw[uC _ (.inl (by have:=h1.2;omega)),a7q (f:=fC) (λ_=>rfl) ho q (by omega) j hj]
  congr 2
  simp [hLl,hq]
 have h1:∀q,q<x.cells.length->(L.getD q (Cl0,.slice none 0 0)).1=x.c q:=λq hq=>by
  have e:x.cells[q]=(L.map (·.1))[q]'(by simpa [hLl] using hq):=by simp [hL]
  rw[<-Hp.c_eq x q hq,e];simp [hLl,hq]
 refine⟨hb.set4 vc,λq hq=>?_,λq hq=>?_,λq _ hq=>by omega,λq q' hq=>by omega,uX.refl _ _,λhn=>(a9n ho (by omega)).1.set _ _⟩
 ·have:=hc q hq;rw[<-h1 q hq];exact⟨this 0 (by omega),this 1 (by omega),this 2 (by omega),this 3 (by omega),this 4 (by omega),this 5 (by omega),this 6 (by omega)⟩
 ·rw[if_neg (by omega)];exact hc q hq 7 (by omega)
def CapP(x:Hp)(pk:Nat->Nat):Prop:=∀q,q<x.cells.length->(x.c q).prs.length<=pk q
theorem c6p{t:TypeId}{c:Nat}{v:Value}{xs:List Value}(h:w.ownsRow B t c v n xs):n<=yC v:=by
 rcases h.2 with⟨rfl,rfl⟩ | ⟨g,cap,cur,rfl,_,_,h4,_⟩
 ·exact Nat.le_refl _
 ·exact h4
def HOwn(B:Nat)(w:World)(x:Hp)(vr vc:Value):Prop:=∃br bc pb pa pk ar kr ac kc,vr=.slice ar x.regs.length kr/\(0<x.regs.length->ar=some ⟨br,0,none⟩)/\vc=.slice ac x.cells.length kc/\(0<x.cells.length->ac=some ⟨bc,0,none⟩)/\Rws B w x br bc pb pa pk/\CapP x pk
theorem c0a(x:Hp)(ag:Option Addr)(ng kg:Nat)(w:World){ar:Option Addr}{kr:Nat}{ac:Option Addr}{kc:Nat}(hR:SlW w (.slice ar x.regs.length kr) x.regs)(hC:SlC w (.slice ac x.cells.length kc) x.cells)(n1:x.regs.length<=1048576)(n2:x.cells.length<=8000)(n3:∀q,q<x.cells.length->(x.c q).prs.length<=200):
  Calls Tryz.prog 139 #[x.v (.slice ar x.regs.length kr) (.slice ac x.cells.length kc) (.slice ag ng kg)] w λe w'=>∃vr vc,e=.returned (x.v vr vc (.slice ag ng kg))/\Hid (HOwn w.heap.size w' x vr vc)/\Ext w w':=by
 obtain⟨L,hL,hLs,hLp⟩:=c5d hC;have hLl:L.length=x.cells.length:=by rw[<-hL,List.length_map]
 have HLS:=uU hLs;have HLP:=uU hLp;have HL:=uU hL;have SR:=uU hR;clear hR hC hL hLs hLp;have xa:=((Ext.refl w).alloc (.cells #[iv x.room,iv x.used,iv x.born,.slice ar x.regs.length kr,.slice ac x.cells.length kc,iv x.phase,iv x.hand,iv x.sub,(.slice ag ng kg),iv x.per,iv x.start,iv x.rounds,iv x.forced] 34)).alloc (.cells #[iv 0,iv 0,iv 0,.slice none 0 0,.slice none 0 0,iv 0,iv 0,iv 0,.slice none 0 0,iv 0,iv 0,iv 0,iv 0] 34);have B2:=(dW.new w x (.slice ar x.regs.length kr) (.slice ac x.cells.length kc) (.slice ag ng kg) 34).ext ((Ext.refl _).alloc (.cells #[iv 0,iv 0,iv 0,.slice none 0 0,.slice none 0 0,iv 0,iv 0,iv 0,.slice none 0 0,iv 0,iv 0,iv 0,iv 0] 34));go_enter Tryz.func139,Tryz.ntmps139;go_wp2_with fail;refine(b8s x.regs _ _ (SlW.ext xa SR) n1).mono ?_;rintro e w3 ⟨vr,rfl,hor,q3⟩;obtain⟨avr,kvr,hvr⟩:∃a k,vr=.slice a x.regs.length k:=⟨_,_,(a0k hor).1⟩;subst hvr;have hz3:w.heap.size+2<=w3.heap.size:=by have:=q3.size;simp at this;omega
 have B3:=uU (B2.ext q3);have X3:=xa.trans q3;have OR:=uU hor;have c3:=B3.2.2.2.1;have c4:=B3.2.2.2.2.1;have fz:∀o,w3.frozen? ⟨w.heap.size,o,none⟩=false:=λo=>((cZ q3).2 w.heap.size o (by simp;omega)).trans (by simp [go_sem])
 have f3:=fz 3;have FZ:=uU fz;have rc:=uU (show ∀o v,((w.alloc (.cells #[iv x.room,iv x.used,iv x.born,.slice ar x.regs.length kr,.slice ac x.cells.length kc,iv x.phase,iv x.hand,iv x.sub,(.slice ag ng kg),iv x.per,iv x.start,iv x.rounds,iv x.forced] 34)).alloc (.cells #[iv 0,iv 0,iv 0,.slice none 0 0,.slice none 0 0,iv 0,iv 0,iv 0,.slice none 0 0,iv 0,iv 0,iv 0,iv 0] 34)).cell? ⟨w.heap.size+1,o,none⟩=some v->w3.cell? ⟨w.heap.size+1,o,none⟩=some v from λo v h=>q3.keep h);have RF:=uU (show ∀o,w3.frozen? ⟨w.heap.size+1,o,none⟩=false from λo=>((cZ q3).2 (w.heap.size+1) o (by simp)).trans (by simp [go_sem]));clear hor fz B2 q3;go_wp2_with fail;have X3s:Ext w (w3.setCell ⟨w.heap.size,3,none⟩ (.slice avr x.regs.length kvr)):=X3.setCell (Nat.le_refl _) _;refine(b8v L _ _ (by rw[<-hLl];exact(show tV (CvAt _) 8 (.slice ac L.length kc) L from by have:=uH HLS;rw[<-hLl] at this;exact this.mono λ_ _ _ k=>k.ext X3s)) (λz hz=>slP_one (HLP z hz)) (by omega)).mono ?_;rintro e w4 ⟨vc,rfl,hoc,q4⟩;obtain⟨avc,kvc,hvc⟩:∃a k,vc=.slice a x.cells.length k:=⟨_,_,by have:=(a0k hoc).1;rw[hLl] at this;exact this⟩;subst hvc;have hs3:(w3.setCell ⟨w.heap.size,3,none⟩ (.slice avr x.regs.length kvr)).heap.size=w3.heap.size:=by simp [World.setCell]
 have B4:=uU ((B3.set3 (.slice avr x.regs.length kvr)).ext q4);have ST:=uU (Cpl.start HL B4 hoc (by omega));have CB:=uU (a0k hoc).2;have CN:=uU (λh=>a9n hoc h);have hz4:w3.heap.size<=w4.heap.size:=by have:=q4.size;omega
 have d4:=B4.2.2.2.2.1;have g4:w4.frozen? ⟨w.heap.size,4,none⟩=false:=((cZ q4).2 w.heap.size 4 (by omega)).trans (by rw[World.frozen?_setCell];exact FZ 4);have FZ4:=uU (show ∀o,w4.frozen? ⟨w.heap.size,o,none⟩=false from λo=>((cZ q4).2 w.heap.size o (by omega)).trans (by rw[World.frozen?_setCell];exact FZ o));have X4:=X3s.trans q4;have Q4:=uU q4;clear hoc q4 c3 c4 f3 X3s;go_wp2_with fail;obtain⟨W5,hW5⟩:∃W,W=w4.setCell ⟨w.heap.size,4,none⟩ (.slice avc x.cells.length kvc):=⟨_,rfl⟩;rw[<-hW5] at ST ⊢;have s5:W5.heap.size=w4.heap.size:=by rw[hW5];simp [World.setCell]
 have X5:Ext w W5:=by rw[hW5];exact X4.setCell (Nat.le_refl _) _
 have HW5:=uU hW5;clear hW5 d4 g4;go_loopw [15] (λi wr=>∃(k:Nat) (pv:Nat->Value),k<=x.cells.length/\i=.int .i64 k/\Hid (Cpl w W5 wr x (.slice avr x.regs.length kvr) (.slice avc x.cells.length kvc) (.slice ag ng kg) pv (λq=>(L.getD q (Cl0,.slice none 0 0)).2) k)) (λi _=>x.cells.length-(intOf i).toNat)
 case atStart=>exact⟨0,_,Nat.zero_le _,rfl,ST⟩
 case round=>
  clear ST;obtain⟨k,pv,hk,rfl,hcp⟩:=hrel;by_cases hlt:k<x.cells.length
  ·obtain⟨bc,hbc⟩:∃bc,avc=some ⟨bc,0,none⟩:=⟨_,(CB (by omega)).1⟩;subst hbc;have hbc0:w3.heap.size<=bc/\bc<w4.heap.size:=by have h1:=(CN (by omega)).2;have h2:=(CN (by omega)).1.1;rw[hs3] at h1;exact⟨h1,h2⟩
   have XR:Ext w wr:=hcp.on.ext X5 (λq hq e=>by have e1:q=bc:=e.1;omega)
   have hm:L.getD k (Cl0,.slice none 0 0)∈L:=by
    have:L.getD k (Cl0,.slice none 0 0)=L[k]'(by omega):=by simp [hLl,hlt]
    rw[this];exact List.getElem_mem _
   have h1:(L.getD k (Cl0,.slice none 0 0)).1=x.c k:=by
    have e:x.cells[k]=(L.map (·.1))[k]'(by simpa [hLl] using hlt):=by simp [uH HL]
    rw[<-Hp.c_eq x k hlt,e];simp [hLl,hlt]
   have sp0:=uH HLP _ hm;rw[h1] at sp0;obtain⟨apk,kpk,hvk⟩:∃a c,(L.getD k (Cl0,.slice none 0 0)).2=.slice a (x.c k).prs.length c:=let ⟨a,c,e,_⟩:=sp0;⟨a,c,e⟩;rw[hvk] at sp0;have SP:=uU sp0
   have p7:wr.cell? ⟨bc,k*8+7,none⟩=some (.slice apk (x.c k).prs.length kpk):=by
    have:=hcp.p7 k hlt;rw[if_neg (by omega),hvk] at this;exact this
   have c4:wr.cell? ⟨w.heap.size,4,none⟩=some (.slice (some ⟨bc,0,none⟩) x.cells.length kvc):=hcp.bx.2.2.2.2.1;have f7:wr.frozen? ⟨bc,k*8+7,none⟩=false:=(hcp.nf (by omega)).2 _;have hl2:=n3 k hlt;have hbw:bc<wr.heap.size:=uL p7;have hk0:(0:Int)<=(k:Int):=by omega
   have hk1:(k:Int)<(x.cells.length:Int):=by omega
   have hne:¬w.heap.size=bc:=by omega
   have hne2:¬bc=w.heap.size:=by omega
   clear sp0 hm h1;go_wp2_with fail;go_region_with (go_at_call 212;refine(b8t (x.c k).prs _ _ (SlP.ext XR.drew SP) (by omega)).mono ?_;rintro e w6 ⟨v',rfl,hop,q6⟩;obtain⟨a',k',hv'⟩:∃a c,v'=.slice a (x.c k).prs.length c:=⟨_,_,(a0k hop).1⟩;subst hv';have q6:=Ext.trans ((Ext.refl wr).drew) q6;have d4:=q6.keep c4;have d7:=q6.keep p7;have g7:=((cZ q6).2 bc (k*8+7) hbw).trans f7;have R:=uU (hcp.step hlt ⟨by show w.heap.size+2<=bc;omega,by show bc<_;omega⟩ q6 hop);clear hop q6)
   all_goals
    go_wp2_with fail;go_roundw
    case rel=>exact⟨k+1,_,by omega,by go_num,R⟩
    case measure=>simp [intOf];omega
  ·have hk2:k=x.cells.length:=by omega
   subst hk2
   have XR:Ext w wr:=hcp.on.ext X5 (λq hq e=>by
    have e1:q=qQ (.slice avc x.cells.length kvc):=e.1;have h1:=(CN (by have:=e.2;omega)).2;rw[hs3] at h1;omega)
   have hvc3:0<x.cells.length->w3.heap.size<=qQ (.slice avc x.cells.length kvc)/\qQ (.slice avc x.cells.length kvc)<w4.heap.size:=λh=>by
    have h1:=(CN (by omega)).2;rw[hs3] at h1;exact⟨h1,(CN (by omega)).1.1⟩
   have WB:∀b,b<w3.heap.size->b≠w.heap.size->wr.heap[b]?=w3.heap[b]?:=λb hb hne=>by
    have e1:w4.heap[b]?=w3.heap[b]?:=(Q4.block b (by rw[hs3];exact hb)).trans (Below.heap_setCell _ _ _ _ hne);have e2:W5.heap[b]?=w4.heap[b]?:=by rw[uH HW5];exact Below.heap_setCell _ _ _ _ hne
    exact(hcp.on.block b (by omega) (λe=>by have e1:b=qQ (.slice avc x.cells.length kvc):=e.1;have:=(hvc3 e.2).1;omega)).trans (e2.trans e1)
   have RW:=uU (show Rws (w.heap.size+2) wr x _ _ _ _ _ from by
    have hb0:∀b,(Value.slice avr x.regs.length kvr).ownBlock=some b->w.heap.size+2<=b/\b<w3.heap.size:=λb hb=>by have:=OR.lt b hb;simp at this;omega
    have hvb:qQ (.slice avr x.regs.length kvr)<w3.heap.size:=by
     unfold qQ;cases e:(Value.slice avr x.regs.length kvr).ownBlock with
     | none=>simp;omega
     | some b=>simp;exact(hb0 b e).2
    refine Rws.of (vr:=.slice avr x.regs.length kvr) (bc:=qQ (.slice avc x.cells.length kvc)) (pv:=pv) (uQ (a3m OR (by simp)) (λb hb=>WB b (hb0 b hb).2 (by have:=(hb0 b hb).1;omega))) hcp.s (λq hq=>by have:=hcp.p7 q hq;rw[if_pos hq] at this;exact this) (λh=>⟨hcp.nf h,by have:=(hvc3 h).1;omega⟩) (λh=>by have:=(hvc3 h).1;omega) (λq hq=>⟨a3m (hcp.pr q hq hq) (by omega),λb hb=>?_⟩) (λq q' hq hq' hne b hb=>hcp.dp q q' hq hq' hne b hb);have h1:=((hcp.pr q hq hq).lt b hb).1;have h2:=hvc3 (by omega);omega)
   have RG:=uU (a0k OR).2;have CP:=uU (show CapP x (λq=>yC (pv q)) from λq hq=>c6p (hcp.pr q hq hq))
   have rcell:∀o v,((w.alloc (.cells #[iv x.room,iv x.used,iv x.born,.slice ar x.regs.length kr,.slice ac x.cells.length kc,iv x.phase,iv x.hand,iv x.sub,(.slice ag ng kg),iv x.per,iv x.start,iv x.rounds,iv x.forced] 34)).alloc (.cells #[iv 0,iv 0,iv 0,.slice none 0 0,.slice none 0 0,iv 0,iv 0,iv 0,.slice none 0 0,iv 0,iv 0,iv 0,iv 0] 34)).cell? ⟨w.heap.size+1,o,none⟩=some v->wr.cell? ⟨w.heap.size+1,o,none⟩=some v:=λo v h=>
    (World.cell?_of_block (a:=⟨w.heap.size+1,o,none⟩) (WB (w.heap.size+1) (by omega) (by omega))).trans (rc o v h)
   have rfz:∀o,wr.frozen? ⟨w.heap.size+1,o,none⟩=false:=λo=>(World.frozen?_of_block (a:=⟨w.heap.size+1,o,none⟩) (WB (w.heap.size+1) (by omega) (by omega))).trans (RF o)
   have r0:=rcell 0 (iv 0) (by simp [go_sem]);have r1:=rcell 1 (iv 0) (by simp [go_sem]);have r2:=rcell 2 (iv 0) (by simp [go_sem]);have r3:=rcell 3 (.slice none 0 0) (by simp [go_sem]);have r4:=rcell 4 (.slice none 0 0) (by simp [go_sem]);have r5:=rcell 5 (iv 0) (by simp [go_sem]);have r6:=rcell 6 (iv 0) (by simp [go_sem]);have r7:=rcell 7 (iv 0) (by simp [go_sem]);have r8:=rcell 8 (.slice none 0 0) (by simp [go_sem]);have r9:=rcell 9 (iv 0) (by simp [go_sem]);have r10:=rcell 10 (iv 0) (by simp [go_sem]);have r11:=rcell 11 (iv 0) (by simp [go_sem]);have r12:=rcell 12 (iv 0) (by simp [go_sem]);have f0:=rfz 0;have f1:=rfz 1;have f2:=rfz 2;have f3:=rfz 3;have f4:=rfz 4;have f5:=rfz 5;have f6:=rfz 6;have f7:=rfz 7;have f8:=rfz 8;have f9:=rfz 9;have f10:=rfz 10;have f11:=rfz 11;have f12:=rfz 12;obtain⟨b0,b1,b2,b3,b4,b5,b6,b7,b8,b9,b10,b11,b12⟩:=hcp.bx;have hb0:w.heap.size<wr.heap.size:=uL b0;have hr0:w.heap.size+1<wr.heap.size:=uL r0;clear hcp rcell rfz WB hvc3;go_wp2_with fail;refine bodyPost_ret (v:=x.v (.slice avr x.regs.length kvr) (.slice avc x.cells.length kvc) (.slice ag ng kg)) (by simp [results,Tryz.results139,go_sem,r0,r1,r2,r3,r4,r5,r6,r7,r8,r9,r10,r11,r12]) rfl ⟨_,_,rfl,?_⟩;refine(λ(F:uX (λq=>q=w.heap.size+1) wr _)=>⟨⟨_,_,_,_,_,_,_,_,_,rfl,λh=>(RG h).1,rfl,λh=>(CB (by omega)).1,(RW.only F (λh e=>by have:=(RW.nr h).2;omega) (λh e=>by have:=(RW.nc h).2;omega) (λq hq hl e=>by have:=(RW.pl q hq hl).2.2.2;omega)).less (by omega),CP⟩,F.ext XR (λq hq e=>by omega)⟩) ?_
   repeat (first | refine uX.setCell ?_ (by simp) _ | exact uX.refl _ _)
structure Rwn(B:Nat)(w:World)(x:Hp)(br:Nat)(cB cO:Nat->Nat)(pb:Nat->Nat)(pa:Nat->Option Addr)(pk:Nat->Nat):Prop where
 r:∀i (hi:i<x.regs.length),tW w br (i*3) x.regs[i]
 s:∀q,q<x.cells.length->S7 w (cB q) (cO q) (x.c q)
 p7:∀q,q<x.cells.length->w.cell? ⟨cB q,cO q+7,none⟩=some (.slice (pa q) (x.c q).prs.length (pk q))
 p:∀q,q<x.cells.length->∀k,k<(x.c q).prs.length->tL w (pb q) (k*6) ((x.c q).p k)
 pl:∀q,q<x.cells.length->0<pk q->pa q=some ⟨pb q,0,none⟩/\Nfp (pb q) (pk q) w/\(pb q≠br/\∀j,j<x.cells.length->pb q≠cB j)/\B<=pb q
 nr:0<x.regs.length->Nf1 br w/\B<=br
 nc:∀q,q<x.cells.length->Nf1 (cB q) w/\B<=cB q
 d:∀q,q<x.cells.length->br≠cB q
 dp:∀q q',q<x.cells.length->q'<x.cells.length->q≠q'->0<pk q->0<pk q'->pb q≠pb q'
 dc:∀q q',q<x.cells.length->q'<x.cells.length->q≠q'->cB q≠cB q'\/cO q+8<=cO q'\/cO q'+8<=cO q
 kp:CapP x pk
theorem Rwn.pw(h:Rwn B w x br cB cO pb pa pk)(hq:q<x.cells.length)(hl:0<(x.c q).prs.length):0<pk q:=Nat.lt_of_lt_of_le hl (h.kp q hq)
theorem Rwn.same(h:Rwn B w x br cB cO pb pa pk)(hs:w.heap.size<=w'.heap.size)
  (hr:0<x.regs.length->w'.heap[br]?=w.heap[br]?) (hc:∀q,q<x.cells.length->w'.heap[cB q]?=w.heap[cB q]?) (hp:∀q,q<x.cells.length->0<pk q->w'.heap[pb q]?=w.heap[pb q]?):Rwn B w' x br cB cO pb pa pk where
 r:=λi hi=>(h.r i hi).of λj _=>World.cell?_of_block (a:=⟨br,_,none⟩) (hr (by omega))
 s:=λq hq=>(h.s q hq).of λj _=>World.cell?_of_block (a:=⟨cB q,_,none⟩) (hc q hq)
 p7:=λq hq=>(World.cell?_of_block (a:=⟨cB q,_,none⟩) (hc q hq)).trans (h.p7 q hq)
 p:=λq hq k hk=>(h.p q hq k hk).of λj _=>World.cell?_of_block (a:=⟨pb q,_,none⟩) (hp q hq (h.pw hq (by omega)))
 pl:=λq hq hl=>let ⟨a,b,c⟩:=h.pl q hq hl;⟨a,a0f b (hp q hq hl) hs,c⟩
 nr:=λhl=>⟨hY (h.nr hl).1 (hr hl) hs,(h.nr hl).2⟩
 nc:=λq hq=>⟨hY (h.nc q hq).1 (hc q hq) hs,(h.nc q hq).2⟩
 d:=h.d
 dp:=h.dp
 dc:=h.dc
 kp:=h.kp
theorem Rwn.ext(h:Rwn B w x br cB cO pb pa pk)(e:Ext w w'):Rwn B w' x br cB cO pb pa pk:=
 h.same e.size (λhl=>e.block _ (h.nr hl).1.1) (λq hq=>e.block _ (h.nc q hq).1.1) (λq hq hl=>e.block _ (h.pl q hq hl).2.1.1)
theorem Rwn.only(h:Rwn B w x br cB cO pb pa pk)(e:uX S w w')(hr:0<x.regs.length->¬S br)(hc:∀q,q<x.cells.length->¬S (cB q))(hp:∀q,q<x.cells.length->0<pk q->¬S (pb q)):Rwn B w' x br cB cO pb pa pk:=
 h.same e.size (λhl=>e.block _ (h.nr hl).1.1 (hr hl)) (λq hq=>e.block _ (h.nc q hq).1.1 (hc q hq)) (λq hq hl=>e.block _ (h.pl q hq hl).2.1.1 (hp q hq hl))
theorem Rwn.slW(h:Rwn B w x br cB cO pb pa pk){ad:Option Addr}(kr:Nat)(ha:0<x.regs.length->ad=some ⟨br,0,none⟩)(hl:x.regs.length<=1048576):SlW w (.slice ad x.regs.length kr) x.regs:=
 ⟨_,_,rfl,by omega,λi hi=>⟨br,0,ha (by omega),by rw[Nat.zero_add];exact h.r i hi⟩⟩
theorem Rwn.far8(h:Rwn B w x br cB cO pb pa pk)(hi:i<x.cells.length)(hq:q<x.cells.length)(e:q≠i)(hs:w.heap.size<=w1.heap.size)(o:uX (λd=>d=cB i) w1 w2)(ho:∀k,(k<cO i\/cO i+8<=k)->w2.cell? ⟨cB i,k,none⟩=w1.cell? ⟨cB i,k,none⟩)(k:Nat)(hk:k<8):w2.cell? ⟨cB q,cO q+k,none⟩=w1.cell? ⟨cB q,cO q+k,none⟩:=by
 by_cases e2:cB q=cB i
 ·rw[e2];rcases h.dc q i hq hi e with d | d | d
  ·exact(d e2).elim
  ·exact ho _ (by omega)
  ·exact ho _ (by omega)
 ·exact World.cell?_of_block (a:=⟨cB q,_,none⟩) (o.block (cB q) (Nat.lt_of_lt_of_le (h.nc q hq).1.1 hs) e2)
theorem a6j(h:Nf1 (cB q) w1)(n:Nf1 (cB i) w2)(o:uX (λd=>d=cB i) w1 w2):Nf1 (cB q) w2:=by
 by_cases e2:cB q=cB i
 ·rw[e2];exact n
 ·exact hY h (o.block (cB q) h.1 e2) o.size
theorem Rws.rwn(h:Rws B w x br bc pb pa pk):Rwn B w x br (λ_=>bc) (λq=>q*8) pb pa pk where
 r:=h.r
 s:=h.s
 p7:=h.p7
 p:=h.p
 pl:=λq hq hl=>let ⟨a,b,c,d⟩:=h.pl q hq hl;⟨a,b,⟨c.1,λ_ _=>c.2⟩,d⟩
 nr:=h.nr
 nc:=λq hq=>h.nc (by omega)
 d:=λq hq=>h.d (by omega)
 dp:=h.dp
 dc:=λq q' _ _ e=>.inr (by omega)
 kp:=h.kp
end Go.Proofs.YtddkhnclmeikfaaGreat
