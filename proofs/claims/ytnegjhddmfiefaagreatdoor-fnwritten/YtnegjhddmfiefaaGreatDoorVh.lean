import Derived.Test.YtnegjhddmfiefaaGreatDoorEn
set_option maxRecDepth 100000
set_option maxHeartbeats 1000000
namespace Go.Proofs.YtnegjhddmfiefaaGreatDoor
open Go.RowKit
attribute [local go_sem ↓] Go.wp_at_zero Go.wp_at_succ
theorem l5cell_9[p:Inhabited ProtD](B g:Nat)(x:Hp)(a b c:Nat)(n:Int)(w:World)(h:GOk B w g x)(s:Snd x)(ha:a<16)(hc:c≤200)(hk:(x.r a).k=2)(v:World)(hv:v.heap.size≤B)(hx:Ext v w):
  Calls Tryz.prog 178 #[.pointer (some ⟨g,0,none⟩),actV 9 a b c n] w fun e w'=>DoPost B g x a b c n 9 v e w':=by
 obtain⟨p1,o1,g1⟩:=GOk.enter h (w0:=doW w 9 a b c n) (((Ext.refl w).alloc _).alloc _);obtain⟨W1,hW1⟩:∃W,W=doW w 9 a b c n:=⟨_,rfl⟩;have bx:=Boxes.new w 9 a b c n;have x1:Ext v (doW w 9 a b c n):=(hx.alloc _).alloc _;rw[←hW1] at g1 bx x1;obtain⟨br,kr,hr⟩:=g1.regs s.r1.regs;have c3:=hr.c3;obtain⟨r0,r1,r2⟩:=hr.r a ha;have hgw:g<W1.heap.size:=cell_lt c3;have hbw:br<W1.heap.size:=cell_lt r0;have O1:=hide o1;have G1:=hide g1;have V0:=hide (show v.heap.size≤w.heap.size+1 by have:=hx.size;omega);have X1:=hide x1;obtain⟨t0,t1,t2,t3,t4,t5,t6,t7⟩:=bx;have hw1:w.heap.size<W1.heap.size:=cell_lt t0;have j0:(0:Int)≤(a:Int):=by omega
 have j1:(a:Int)<16:=by omega
 have D:=hide hk;have q2b:((x.r a).k != 2)=false:=by simpa using hk
 obtain⟨en,ea,hi,st,nd⟩:=s.at a ha hk;obtain⟨i,hI⟩:∃i,i=x.at a:=⟨_,rfl⟩;have HI:=hide hI;rw[←hI] at ea hi st nd;have EA:=hide ea;have S:=hide s;have i0:(0:Int)≤(i:Int):=by omega
 have i1:(i:Int)<(x.cells.length:Int):=by omega
 clear hk ea hI s en;clear nd;clear h hr o1 g1 x1;go_enter Tryz.func178,Tryz.ntmps178;go_wp2_with fail;unfold doW at hW1;rw[←hW1];clear hW1
 go_region
 obtain⟨W2,hW2⟩:∃W,W=(W1.alloc (.cells #[.int .i64 (x.r a).k,.int .i64 (x.r a).n,.int .i64 (x.r a).a] 139)).drew:=⟨_,rfl⟩;rw[←hW2];have x12:Ext W1 W2:=by rw[hW2];exact((Ext.refl _).alloc _).drew
 have WB:WdAt W2 W1.heap.size 0 (x.r a):=by rw[hW2];exact⟨by simp [go_sem],by simp [go_sem],by simp [go_sem]⟩
 obtain⟨y0,y1,y2⟩:=WB;have G2:=hide ((unhide G1).ext x12);have X2:=hide ((unhide X1).trans x12);have hy2:W1.heap.size<W2.heap.size:=cell_lt y0;clear hW2 x12 c3 r0 r1 r2 t0 t1 t2 t3 t4 t5 t6 t7;obtain⟨t0,t1,t2,t3,t4,t5,t6,t7⟩:=(unhide G2).boxes (unhide O1);have hw2:w.heap.size<W2.heap.size:=cell_lt t0;have hw2':w.heap.size+1<W2.heap.size:=cell_lt t5;rw[unhide EA] at y2;have QC:=hide (fun(W:World) (xW:Ext W2 W)=>l5grow_any B g x a b c n W ((unhide G2).ext xW) (unhide S) ha hc (unhide D) v hv ((unhide X2).trans xW));go_wp2_with fail;refine(unhide QC _ (Ext.refl W2)).mono ?_;rintro e w3 ⟨y,cd,nm,he,dr,g3,x3⟩;have e2:=unhide he;subst e2;have DR:=hide (unhide dr);have G3:=hide (unhide g3);have X3:=hide x3;clear he g3 x3 dr QC;clear t0 t1 t2 t3 t4 t5 t6 t7 y0 y1 y2;obtain⟨u0,u1,u2,u3,u4,u5,u6,u7⟩:=(unhide G3).boxes (unhide O1);have hw3:w.heap.size+1<w3.heap.size:=cell_lt u5;go_wp2_with fail;refine bodyPost_ret (v:=ansV cd nm) (by simp [results,Tryz.results178,go_sem,u5,u6]) rfl ?_;exact⟨y,cd,nm,rfl,.inr ⟨unhide D,unhide DR⟩,GOk.done (unhide O1) (unhide G3) cd nm,putA_ext (unhide X3) (unhide V0) cd nm⟩
theorem l5do_9[p:Inhabited ProtD](B g:Nat)(x:Hp)(a b c:Nat)(n:Int)(w:World)(h:GOk B w g x)(s:Snd x)(ok:actOkB 9 a b c n=true)(ha:a<16)(hc:c≤200)(v:World)(hv:v.heap.size≤B)(hx:Ext v w):
  Calls Tryz.prog 147 #[.pointer (some ⟨g,0,none⟩),actV 9 a b c n] w fun e w'=>DoPost B g x a b c n 9 v e w':=by
 obtain⟨p1,o1,g1⟩:=GOk.enter h (w0:=doW w 9 a b c n) (((Ext.refl w).alloc _).alloc _);have HG:=hide g1;have S:=hide s;have O1:=hide o1;have QA:=hide (fun W=>specActOk_any 9 a b c n W);rw[ok] at QA;have V0:=hide (show v.heap.size≤w.heap.size+1 by have:=hx.size;omega);have XD:=hide (show Ext v (doW w 9 a b c n) from(hx.alloc _).alloc _);have BX:=hide (Boxes.new w 9 a b c n);clear h s o1 g1;go_enter Tryz.func147,Tryz.ntmps147;go_wp2_with fail;refine(unhide QA _).mono ?_;rintro e w1 ⟨rfl,x1⟩;have X1:=hide ((unhide XD).trans x1);have BX1:=hide ((unhide BX).ext x1);obtain⟨t0,t1,t2,t3,t4,t5,t6,t7⟩:=unhide BX1;have hw1:w.heap.size+1<w1.heap.size:=cell_lt t5;have hw0:w.heap.size<w1.heap.size:=cell_lt t0;have G1:=hide ((unhide HG).ext x1)
 have QP:=hide (show Calls Tryz.prog 178 #[.pointer (some ⟨g,0,none⟩),actV 9 a b c n] w1 fun e w'=>DoPost B g x a b c n 9 v e w' from by
  by_cases hk:(x.r a).k=2
  ·exact l5cell_9 B g x a b c n w1 (unhide G1) (unhide S) ha hc hk v hv (unhide X1)
  ·exact(l5cell_no B g x 9 a b c n w1 (unhide G1) (unhide S) ha hk v (unhide X1)).mono fun e w2 hh=>⟨x,2,0,hh.1,.inl ⟨hk,rfl,rfl,rfl⟩,hh.2.1,hh.2.2⟩)
 clear x1 QA BX1 BX XD HG;go_wp2_with fail;refine(unhide QP).mono ?_;rintro e w3 ⟨y,cd,nm,he,dr,g3,x3⟩;have e2:=unhide he;subst e2;have G3:=hide (unhide g3);have X3:=hide x3;clear he g3 x3 QP;obtain⟨u0,u1,u2,u3,u4,u5,u6,u7⟩:=(unhide G3).boxes (unhide O1);have hw3:w.heap.size+1<w3.heap.size:=cell_lt u5;clear t0 t1 t2 t3 t4 t5 t6 t7;go_wp2_with fail;refine bodyPost_ret (v:=ansV cd nm) (by simp [results,Tryz.results147,go_sem,u5,u6]) rfl ?_;exact⟨y,cd,nm,rfl,unhide dr,GOk.done (unhide O1) (unhide G3) cd nm,putA_ext (unhide X3) (unhide V0) cd nm⟩
abbrev newX(x:Hp)(t:Nat)(c':Cl):Hp:={ x with cells:=newCs x t c' }
theorem newX_c(x:Hp)(t:Nat)(c':Cl)(ht:t≤x.cells.length)(q:Nat):(newX x t c').c q=if q=t then c' else x.c q:=newCs_c x (newX x t c') t c' ht rfl q
theorem newX_lt(x:Hp)(t:Nat)(c':Cl)(ht:t≤x.cells.length)(q:Nat)(hq:q<(newX x t c').cells.length):q=t∨(q<x.cells.length∧q≠t):=by
 have:=newCs_len x t c';have hq:q<(newCs x t c').length:=hq;rw[this] at hq
 split at hq <;> omega
theorem S7.of2{w w':World}{b b' o:Nat}{c:Cl}(h:S7 w b o c)(e:∀j,j<7→w'.cell? ⟨b',o+j,none⟩=w.cell? ⟨b,o+j,none⟩):S7 w' b' o c:=by
 obtain⟨a0,a1,a2,a3,a4,a5,a6⟩:=h;exact⟨(e 0 (by omega)).trans a0,(e 1 (by omega)).trans a1,(e 2 (by omega)).trans a2,(e 3 (by omega)).trans a3,(e 4 (by omega)).trans a4,(e 5 (by omega)).trans a5,(e 6 (by omega)).trans a6⟩
theorem GAt.newc[Inhabited ProtD]{B:Nat}{w w':World}{g:Nat}{x:Hp}{ar:Option Addr}{kr:Nat}{ac:Option Addr}{kc:Nat}{vg:Value}{br bc:Nat}{pb:Nat→Nat}{pa:Nat→Option Addr}{pk:Nat→Nat}{role:Nat→Nat}(h:GAt B w g x ar kr ac kc vg br bc pb pa pk role)(r0:0<x.regs.length)(t:Nat)(ht:t≤x.cells.length)(c':Cl)(bc' kc' qb:Nat)(qa:Option Addr)(qk:Nat)(hs:w.heap.size≤w'.heap.size)
  (hbc:(bc'=bc∧0<kc)∨w.heap.size≤bc') (far:∀q,q<w.heap.size→q≠g→q≠bc'→w'.heap[q]?=w.heap[q]?) (nfg:Nf1 g w') (bx:HBox w' g (newX x t c') (.slice ar x.regs.length kr) (.slice (some ⟨bc',0,none⟩) (newCs x t c').length kc') vg)
  (nfc:Nf1 bc' w') (cpc:∀j,j<kc'*8→∃v,w'.cell? ⟨bc',j,none⟩=some v) (hB:B≤bc') (hkl:(newCs x t c').length≤kc') (hst:S7 w' bc' (t*8) c') (h7t:w'.cell? ⟨bc',t*8+7,none⟩=some (.slice qa c'.prs.length qk))
  (ho:∀q,q<x.cells.length→q≠t→∀j,j<8→w'.cell? ⟨bc',q*8+j,none⟩=w.cell? ⟨bc,q*8+j,none⟩) (hp:∀k,k<c'.prs.length→PrAt w' qb (k*6) (c'.p k)) (hkq:c'.prs.length≤qk) (hN:0<qk→qa=some ⟨qb,0,none⟩∧Nfp qb qk w'∧w.heap.size≤qb∧B≤qb∧qb≠bc') :
  GAt B w' g (newX x t c') ar kr (some ⟨bc',0,none⟩) kc' vg br bc' (fun q=>if q=t then qb else pb q) (fun q=>if q=t then qa else pa q) (fun q=>if q=t then qk else pk q) (fun d=>if d=bc' then 3 else if w.heap.size≤d then 6+t else role d):=by
 have r3:∀d,d<w.heap.size→role d≠3→d≠bc':=fun d hd hr e=>by
  rcases hbc with⟨e1,e2⟩ | e1
  ·exact hr (by rw[e,e1];exact(h.cc e2).ro)
  ·omega
 have ro:∀d,d<w.heap.size→role d≠3→(if d=bc' then 3 else if w.heap.size≤d then 6+t else role d)=role d:=fun d hd hr=>by rw[if_neg (r3 d hd hr),if_neg (by omega)]
 have far2:∀q,q<w.heap.size→role q≠0→role q≠3→w'.heap[q]?=w.heap[q]?:=fun q hq h0 h3=>far q hq (fun e=>h0 (by rw[e];exact h.sp.g)) (r3 q hq h3)
 have hc:=newX_c x t c' ht;have lt:=newX_lt x t c' ht;have pf:∀q,q<x.cells.length→0<pk q→w'.heap[pb q]?=w.heap[pb q]?:=fun q hq hl=>far2 (pb q) (h.rw.pl q hq hl).2.1.1 (by rw[h.sp.p q hq hl];omega) (by rw[h.sp.p q hq hl];omega)
 have fr:0<x.regs.length→w'.heap[br]?=w.heap[br]?:=fun hr=>far2 br (h.rw.nr hr).1.1 (by rw[h.sp.r hr];omega) (by rw[h.sp.r hr];omega)
 have pne:∀q,q<x.cells.length→0<pk q→pb q≠bc':=fun q hq hl=>r3 (pb q) (h.rw.pl q hq hl).2.1.1 (by rw[h.sp.p q hq hl];omega)
 refine⟨bx,nfg,h.lo,h.ha,fun _=>rfl,⟨fun j hj=>?_,fun q hq=>?_,fun q hq=>?_,fun q hq j hj=>?_,fun q hq hlq=>?_,fun hr=>⟨nf1_block (h.rw.nr hr).1 (fr hr) hs,(h.rw.nr hr).2⟩,fun _=>⟨nfc,hB⟩,fun _=>r3 br (h.rw.nr r0).1.1 (by rw[h.sp.r r0];omega),fun q q' hq hq' hqq h1 h2=>?_,fun q hq=>?_⟩,h.gr.block (fun q hq=>far2 q (h.gr.lt q hq).2 (by rw[h.sp.y q hq];omega) (by rw[h.sp.y q hq];omega)),⟨?_,fun hr=>?_,fun _=>if_pos rfl,fun q hq=>?_,fun q hq hlq=>?_⟩,hkl,h.pr.of (fun q hq h1=>far2 q hq (by rw[h1];omega) (by rw[h1];omega)) (fun q hq h1=>by(try dsimp only);rw[ro q hq (by rw[h1];omega)];exact h1),fun _=>⟨rfl,if_pos rfl,nfc,cpc,hB⟩⟩
 ·exact(h.rw.r j hj).of fun m _=>World.cell?_of_block (a:=⟨br,_,none⟩) (fr (by have:j<x.regs.length:=hj;omega))
 ·rw[hc q];rcases lt q hq with e | ⟨e1,e2⟩
  ·rw[if_pos e,e];exact hst
  ·rw[if_neg e2];exact(h.rw.s q e1).of2 fun j hj=>ho q e1 e2 j (by omega)
 ·rw[hc q];rcases lt q hq with e | ⟨e1,e2⟩
  ·simp only [if_pos e];rw[e];exact h7t
  ·simp only [if_neg e2];rw[ho q e1 e2 7 (by omega)];exact h.rw.p7 q e1
 ·rw[hc q] at hj ⊢;rcases lt q hq with e | ⟨e1,e2⟩
  ·simp only [if_pos e] at hj ⊢;exact hp j hj
  ·simp only [if_neg e2] at hj ⊢;exact(h.rw.p q e1 j hj).of fun m _=>World.cell?_of_block (a:=⟨pb q,_,none⟩) (pf q e1 (h.rw.pw e1 (by omega)))
 ·rcases lt q hq with e | ⟨e1,e2⟩
  ·simp only [if_pos e] at hlq ⊢;obtain⟨a1,a2,a3,a4,a5⟩:=hN hlq;exact⟨a1,a2,⟨fun e=>by have:=(h.rw.nr r0).1.1;omega,a5⟩,a4⟩
  ·simp only [if_neg e2] at hlq ⊢;obtain⟨a1,a2,a3,a4⟩:=h.rw.pl q e1 hlq;exact⟨a1,nfp_block a2 (pf q e1 hlq) hs,⟨a3.1,pne q e1 hlq⟩,a4⟩
 ·rcases lt q hq with e | ⟨e1,e2⟩
  ·have e':q'≠t:=fun u=>hqq (by rw[e,u])
   rcases lt q' hq' with u | ⟨u1,u2⟩
   ·exact absurd u e'
   ·simp only [if_pos e,if_neg e'] at h1 h2 ⊢;have:=(h.rw.pl q' u1 h2).2.1.1;have:=(hN h1).2.2.1;omega
  ·rcases lt q' hq' with u | ⟨u1,u2⟩
   ·simp only [if_pos u,if_neg e2] at h1 h2 ⊢;have:=(h.rw.pl q e1 h1).2.1.1;have:=(hN h2).2.2.1;omega
   ·simp only [if_neg e2,if_neg u2] at h1 h2 ⊢;exact h.rw.dp q q' e1 u1 hqq h1 h2
 ·rw[hc q];rcases lt q hq with e | ⟨e1,e2⟩
  ·simp only [if_pos e];exact hkq
  ·simp only [if_neg e2];exact h.rw.kp q e1
 ·rw[ro g h.nf.1 (by rw[h.sp.g];omega)];exact h.sp.g
 ·rw[ro br (h.rw.nr hr).1.1 (by rw[h.sp.r hr];omega)];exact h.sp.r hr
 ·rw[ro q (h.gr.lt q hq).2 (by rw[h.sp.y q hq];omega)];exact h.sp.y q hq
 ·rcases lt q hq with e | ⟨e1,e2⟩
  ·simp only [if_pos e] at hlq ⊢;obtain⟨_,_,a3,_,a5⟩:=hN hlq;rw[if_neg a5,if_pos a3,e]
  ·simp only [if_neg e2] at hlq ⊢;rw[ro (pb q) (h.rw.pl q e1 hlq).2.1.1 (by rw[h.sp.p q e1 hlq];omega)];exact h.sp.p q e1 hlq
abbrev z6:Array Value:=#[iv 0,iv 0,iv 0,iv 0,iv 0,iv 0]
theorem made6(m j:Nat)(hj:j<m):(madeCells z6 m)[j]?=some (iv 0):=by
 have h6:j % 6<6:=Nat.mod_lt _ (by omega)
 have:([iv 0,iv 0,iv 0,iv 0,iv 0,iv 0]:List Value)[j % 6]?.getD default=iv 0:=by
  have:j % 6=0∨j % 6=1∨j % 6=2∨j % 6=3∨j % 6=4∨j % 6=5:=by omega
  rcases this with e | e | e | e | e | e <;> rw[e] <;> rfl
 simp [madeCells,hj];exact this
theorem mkPairsZ(n:Nat)(hn:n≤1048576)(w:World):(Instr.makeSlice 132 (.int .i64 n) (.int .i64 n)).run Tryz.prog w=.ok (.slice (some ⟨w.heap.size,0,none⟩) n n) (w.alloc (.cells (madeCells z6 (n*6)) 178)):=by
 obtain⟨i0,hi,hz0,hz1,hz2⟩:=info_parts infoPairs;have h:=run_make (P:=Tryz.prog) w 132 178 i0 _ Tryz.underlying132 hi hz0 .i64 .i64 n n (by omega) (Int.le_refl _) (by rw[hz2];omega) (by omega);rw[hz1] at h;simp only [Int.toNat_natCast] at h;exact h
structure NewP(w0 W:World)(qb n:Nat):Prop where
 lt:w0.heap.size≤qb
 nf:Nfp qb n W
 z:∀k,k<n→PrAt W qb (k*6) Pr0
theorem NewP.ext{w0 W W':World}{qb n:Nat}(h:NewP w0 W qb n)(e:Ext W W'):NewP w0 W' qb n:=⟨h.lt,h.nf.ext e,fun k hk=>(h.z k hk).ext e⟩
theorem NewP.made(w0 w:World)(n:Nat)(t:TypeId)(e:Ext w0 w):NewP w0 (w.alloc (.cells (madeCells z6 (n*6)) t)) w.heap.size n:=by
 have hn:(w.alloc (.cells (madeCells z6 (n*6)) t)).heap[w.heap.size]?=some (.cells (madeCells z6 (n*6)) t):=heap_alloc_new w _;have cz:∀j,j<n*6→(w.alloc (.cells (madeCells z6 (n*6)) t)).cell? ⟨w.heap.size,j,none⟩=some (iv 0):=fun j hj=>by rw[cell_of_row _ w.heap.size j _ _ (0,0) hn];exact made6 _ j hj
 exact⟨e.size,⟨by simp,fun _=>by simp [go_sem],fun j hj=>⟨_,cz j hj⟩⟩,fun k hk=>⟨cz _ (by omega),cz _ (by omega),cz _ (by omega),cz _ (by omega),cz _ (by omega),cz _ (by omega)⟩⟩
theorem NewP.only{w0 W W':World}{qb n:Nat}{S:Nat→Prop}(h:NewP w0 W qb n)(o:Only S W W')(hS:¬S qb):NewP w0 W' qb n:=
 ⟨h.lt,nfp_block h.nf (o.block qb h.nf.1 hS) o.size,fun k hk=>(h.z k hk).of fun _ _=>World.cell?_of_block (a:=⟨qb,_,none⟩) (o.block qb h.nf.1 hS)⟩
theorem rep_p(c:Cl)(m:Nat)(h:c.prs=List.replicate m Pr0)(k:Nat):c.p k=Pr0:=by
 unfold Cl.p;rw[h];by_cases e:k<m
 ·simp [e]
 ·simp [Nat.le_of_not_lt e]
theorem newc_place[Inhabited ProtD]{B:Nat}{w0:World}{g:Nat}{x:Hp}{ar:Option Addr}{kr:Nat}{ac:Option Addr}{kc:Nat}{vg:Value}{br bc:Nat}{pb:Nat→Nat}{pa:Nat→Option Addr}{pk:Nat→Nat}{role:Nat→Nat}(h:GAt B w0 g x ar kr ac kc vg br bc pb pa pk role)(r0:0<x.regs.length)(t:Nat)(ht:t<x.cells.length)(c':Cl)(m:Nat)(hm:c'.prs=List.replicate m Pr0)(W:World)(e:Ext w0 W)(qb:Nat)(np:NewP w0 W qb m):
  GOk B (cellW W bc (t*8) c' (.slice (some ⟨qb,0,none⟩) m m)) g (newX x t c'):=by
 have hn:0<x.cells.length:=by omega
 have hk:0<kc:=Nat.lt_of_lt_of_le hn h.kl;have cc:=h.cc hk;have g1:=h.ext e;have len:(newCs x t c').length=x.cells.length:=by rw[newCs_len,if_pos ht]
 have ml:c'.prs.length=m:=by rw[hm];simp
 have o:=cellW_only W bc (t*8) c' (.slice (some ⟨qb,0,none⟩) m m);have qne:qb≠bc:=fun e=>by have:=np.lt;have:=cc.nf.1;omega
 have gne:g≠bc:=fun e=>by have h1:=h.sp.g;have h2:=cc.ro;rw[e] at h1;omega
 have fg:=o.block g g1.nf.1 gne;obtain⟨k1,k2⟩:=cellW_same W bc (t*8) c' (x.c t) (.slice (some ⟨qb,0,none⟩) m m) _ (g1.rw.s t ht) (g1.rw.p7 t ht);have ot:=cellW_other W bc (t*8) c' (.slice (some ⟨qb,0,none⟩) m m);have np2:=np.only o qne;refine⟨_,_,_,_,_,_,_,_,_,_,_,h.newc r0 t (Nat.le_of_lt ht) c' bc kc qb (some ⟨qb,0,none⟩) m (Nat.le_trans e.size o.size) (.inl ⟨rfl,hk⟩) (fun q hq h1 h2=>(o.block q (Nat.lt_of_lt_of_le hq e.size) h2).trans (e.block q hq)) (nf1_block g1.nf fg o.size) ?_ (cellW_nf (g1.cc hk).nf _ _ _) (fun j hj=>?_) cc.lo (by rw[len];exact h.kl) k1 (by rw[ml];exact k2) (fun q hq h1 j hj=>?_) (fun k hk=>?_) (by rw[ml];exact Nat.le_refl _) (fun hq=>⟨rfl,np2.nf,np2.lt,by have:=cc.lo;have:=cc.nf.1;have:=np.lt;omega,qne⟩)⟩
 ·have:=(g1.bx.block fg);rw[cc.ad] at this;rw[len];exact this
 ·by_cases u:j<t*8∨t*8+8≤j
  ·rw[ot j u];exact(g1.cc hk).cp j hj
  ·by_cases u7:j=t*8+7
   ·rw[u7];exact⟨_,k2⟩
   ·have:=k1.some (j-t*8) (by omega);rw[show t*8+(j-t*8)=j by omega] at this;exact this
 ·rw[ot _ (by omega)];exact(bcell e).1 bc _ cc.nf.1
 ·rw[rep_p c' m hm k];exact np2.z k (by omega)
structure AppC[Inhabited ProtD](B g:Nat)(x:Hp)(c':Cl)(v w:World)(b' k':Nat)(w':World):Prop where
 gk:∀W,Ext w' W→GOk B (W.setCell ⟨g,4,none⟩ (.slice (some ⟨b',0,none⟩) (x.cells.length+1) k')) g (newX x x.cells.length c')
 far:w'.heap[g]?=w.heap[g]?
 sz:w.heap.size≤w'.heap.size
 ex:Ext v w'
theorem cell_fC{w:World}{b o:Nat}{c:Cl}{u:Value}(s:S7 w b o c)(p:w.cell? ⟨b,o+7,none⟩=some u)(j:Nat)(hj:j<8):w.cell? ⟨b,o+j,none⟩=(fC (c,u))[j]?:=by
 obtain⟨h0,h1,h2,h3,h4,h5,h6⟩:=s
 match j,hj with
 | 0,_=>exact h0
 | 1,_=>exact h1
 | 2,_=>exact h2
 | 3,_=>exact h3
 | 4,_=>exact h4
 | 5,_=>exact h5
 | 6,_=>exact h6
 | 7,_=>exact p
def rowC(x:Hp)(pa:Nat→Option Addr)(pk:Nat→Nat):List (Cl×Value):=(List.range x.cells.length).map (fun q=>(x.c q,.slice (pa q) (x.c q).prs.length (pk q)))
theorem rowC_len(x:Hp)(pa:Nat→Option Addr)(pk:Nat→Nat):(rowC x pa pk).length=x.cells.length:=by simp [rowC]
theorem rowC_at(x:Hp)(pa:Nat→Option Addr)(pk:Nat→Nat)(q:Nat)(hq:q<(rowC x pa pk).length):(rowC x pa pk)[q]=(x.c q,.slice (pa q) (x.c q).prs.length (pk q)):=by simp [rowC]
theorem appC_run[Inhabited ProtD]{B:Nat}{w0:World}{g:Nat}{x:Hp}{ar:Option Addr}{kr:Nat}{ac:Option Addr}{kc:Nat}{vg:Value}{br bc:Nat}{pb:Nat→Nat}{pa:Nat→Option Addr}{pk:Nat→Nat}{role:Nat→Nat}(h:GAt B w0 g x ar kr ac kc vg br bc pb pa pk role)(r0:0<x.regs.length)(n8:x.cells.length≤8000)(c':Cl)(m:Nat)(hm:c'.prs=List.replicate m Pr0)(qb:Nat)(ty:TypeId)(W1:World)(e1:Ext w0 W1)(np:NewP w0 W1 qb m)(ad:Addr)(c:Nat)(hz:∀j u,(fC (c',.slice (some ⟨qb,0,none⟩) m m))[j]?=some u→W1.cell? (ad.add j)=some u)(v:World)(hv:v.heap.size≤B)(hx:Ext v w0):
  ∃b' k' w',(Builtin.append_ #[117,117] ty #[.slice ac x.cells.length kc,.slice (some ad) 1 c]).run Tryz.prog W1=.ok (.slice (some ⟨b',0,none⟩) (x.cells.length+1) k') w'∧AppC B g x c' v w0 b' k' w':=by
 have g1:=h.ext e1;obtain⟨i0,hi0,hz0,hz1,hz2⟩:=info_parts infoCells
 have one:∀u∈fC (c',.slice (some ⟨qb,0,none⟩) m m),u.oneCell'=true:=fun u hu=>by
  simp [fC] at hu;rcases hu with rfl | rfl | rfl | rfl | rfl | rfl | rfl | rfl <;> rfl
 have len:(newCs x x.cells.length c').length=x.cells.length+1:=by rw[newCs_len,if_neg (by omega)]
 have ml:c'.prs.length=m:=by rw[hm];simp
 have hB0:B≤w0.heap.size:=Nat.le_trans h.lo (Nat.le_of_lt h.nf.1);by_cases hr:x.cells.length+1≤kc
 ·have hk:0<kc:=by omega
  have cc:=g1.cc hk
  have hrun:=run_append_room_cells (P:=Tryz.prog) W1 117 ty 134 i0 Tryz.underlying117 hi0 bc 0 x.cells.length kc ad 1 c (fC (c',.slice (some ⟨qb,0,none⟩) m m)) (by rw[hz1];rfl) hz one hr (fun j hj=>by
   have hj:j<8:=hj;obtain⟨u,hu⟩:=cc.cp (0+x.cells.length*i0.size+j) (by rw[hz1];omega);rw[hu];rfl) (fun j _=>cc.nf.2 _)
  rw[hz1,Nat.zero_add] at hrun;have oP:Only (fun q=>q=bc) W1 (W1.setCells bc (x.cells.length*8) (fC (c',.slice (some ⟨qb,0,none⟩) m m))):=put_only (S:=fun q=>q=bc) rfl (Only.refl _ W1);have gne:g≠bc:=fun e=>by have h1:=h.sp.g;have h2:=cc.ro;rw[e] at h1;omega
  have fg:=oP.block g g1.nf.1 gne;have bw:bc<w0.heap.size:=(h.cc hk).nf.1;have qne:qb≠bc:=fun e=>by have:=np.lt;omega
  refine⟨bc,kc,_,by rw[cc.ad];exact hrun,⟨fun W e=>?_,fg.trans (e1.block g h.nf.1),Nat.le_trans e1.size oP.size,oP.ext (hx.trans e1) (fun q hq e=>by have:=cc.lo;omega)⟩⟩;have oW:Only (fun q=>q=bc) W1 W:=oP.trans (Only.of_ext e);have np2:=np.only oW qne;have cW:∀j,W.cell? ⟨bc,j,none⟩=(W1.setCells bc (x.cells.length*8) (fC (c',.slice (some ⟨qb,0,none⟩) m m))).cell? ⟨bc,j,none⟩:=fun j=>(bcell e).1 bc j (Nat.lt_of_lt_of_le cc.nf.1 oP.size)
  have cS:∀j,(W.setCell ⟨g,4,none⟩ (.slice (some ⟨bc,0,none⟩) (x.cells.length+1) kc)).cell? ⟨bc,j,none⟩=(W1.setCells bc (x.cells.length*8) (fC (c',.slice (some ⟨qb,0,none⟩) m m))).cell? ⟨bc,j,none⟩:=fun j=>(cell_other _ (.inl gne)).trans (cW j)
  have key:∀j,j<8→(W.setCell ⟨g,4,none⟩ (.slice (some ⟨bc,0,none⟩) (x.cells.length+1) kc)).cell? ⟨bc,x.cells.length*8+j,none⟩=(fC (c',.slice (some ⟨qb,0,none⟩) m m))[j]?:=fun j hj=>(cS _).trans (set_in bc _ _ j W1 (fun i hi=>cc.cp _ (by have:i<8:=hi;omega)) hj)
  have nfW:Nf1 bc W:=cc.nf.put.ext e;have qg:qb≠g:=fun e=>by have:=np.lt;have:=h.nf.1;omega
  have npS:=np2.only (S:=fun q=>q=g) (Only.setCell (S:=fun q=>q=g) (Only.refl _ W) (p:=⟨g,4,none⟩) rfl (.slice (some ⟨bc,0,none⟩) (x.cells.length+1) kc)) qg;refine⟨_,_,_,_,_,_,_,_,_,_,_,h.newc r0 x.cells.length (Nat.le_refl _) c' bc kc qb (some ⟨qb,0,none⟩) m (by have:=oW.size;have:=e1.size;simp only [World.setCell,Array.size_modify];omega) (.inl ⟨rfl,hk⟩) (fun q hq h1 h2=>(Below.heap_setCell _ _ _ _ h1).trans ((oW.block q (Nat.lt_of_lt_of_le hq e1.size) h2).trans (e1.block q hq))) ((nf1_block g1.nf (oW.block g g1.nf.1 gne) oW.size).set _ _) ?_ (nfW.set _ _) (fun j hj=>?_) cc.lo (by rw[len];exact hr) ⟨key 0 (by omega),key 1 (by omega),key 2 (by omega),key 3 (by omega),key 4 (by omega),key 5 (by omega),key 6 (by omega)⟩ (by rw[ml];exact key 7 (by omega)) (fun q hq h1 j hj=>?_) (fun k hk=>?_) (by rw[ml];exact Nat.le_refl _) (fun hq=>⟨rfl,npS.nf,npS.lt,by have:=npS.lt;omega,qne⟩)⟩
  ·have:=(g1.bx.block (oW.block g g1.nf.1 gne)).set4 (.slice (some ⟨bc,0,none⟩) (x.cells.length+1) kc);rw[len];exact this
  ·by_cases u:j<x.cells.length*8∨x.cells.length*8+8≤j
   ·rw[cS,set_out bc _ _ _ W1 (by have:(fC (c',.slice (some ⟨qb,0,none⟩) m m)).length=8:=rfl;omega)];exact cc.cp j hj
   ·have:=key (j-x.cells.length*8) (by omega);rw[show x.cells.length*8+(j-x.cells.length*8)=j by omega] at this;rw[this];have hl:j-x.cells.length*8<(fC (c',.slice (some ⟨qb,0,none⟩) m m)).length:=by have:(fC (c',.slice (some ⟨qb,0,none⟩) m m)).length=8:=rfl;omega
    exact⟨_,List.getElem?_eq_getElem hl⟩
  ·rw[cS,set_out bc _ _ _ W1 (by omega)];exact(bcell e1).1 bc _ bw
  ·rw[rep_p c' m hm k];exact npS.z k (by omega)
 ·have RL:=rowC_len x pa pk;have rc:∀W,Ext w0 W→∀q,q<x.cells.length→∀j,j<8→W.cell? ⟨bc,q*8+j,none⟩=(fC (x.c q,.slice (pa q) (x.c q).prs.length (pk q)))[j]?:=fun W e q hq j hj=>cell_fC ((h.ext e).rw.s q hq) ((h.ext e).rw.p7 q hq) j hj
  have grow:∃v' w',(Builtin.append_ #[117,117] ty #[.slice ac x.cells.length kc,.slice (some ad) 1 c]).run Tryz.prog W1=.ok v' w'∧w'.ownsRow W1.heap.size 134 8 v' (x.cells.length+1) ((rowC x pa pk).flatMap fC++fC (c',.slice (some ⟨qb,0,none⟩) m m))∧W1.grownBy w' none:=by
   have hmax:x.cells.length+1≤maxLen:=by unfold maxLen;omega
   cases ea:ac with
   | none=>
    have k0:kc=0:=by
     rcases Nat.eq_zero_or_pos kc with k0 | k0
     ·exact k0
     ·have:=(h.cc k0).ad;rw[ea] at this;cases this
    have n0:x.cells.length=0:=by have:=h.kl;omega
    have l0:rowC x pa pk=[]:=List.eq_nil_of_length_eq_zero (by rw[RL];exact n0);rw[k0,l0,n0];obtain⟨v',w',r1,r2,r3,_⟩:=run_append_own (P:=Tryz.prog) W1 W1.heap.size 117 ty 134 i0 _ 8 80 Tryz.underlying117 hi0 hz0 hz1 hz2 rfl (by decide) (.slice none 0 0) 0 [] (World.ownsRow_nil W1 _ _ _) ad 1 c (fC (c',.slice (some ⟨qb,0,none⟩) m m)) rfl hz one (by unfold maxLen;omega) (by decide) (Nat.le_refl _);exact⟨v',w',r1,r2,r3⟩
   | some b=>
    refine run_append_arg_grows (P:=Tryz.prog) W1 117 ty 134 i0 _ 8 80 Tryz.underlying117 hi0 hz0 hz1 hz2 rfl (by decide) b _ _ ((rowC x pa pk).flatMap fC) (by rw[flat_len fC 8 (fun _=>rfl),RL]) (fun j u hu=>?_) ad 1 c (fC (c',.slice (some ⟨qb,0,none⟩) m m)) rfl hz (by omega) hmax (by omega)
    have hj:j<((rowC x pa pk).flatMap fC).length:=by
     rcases Nat.lt_or_ge j ((rowC x pa pk).flatMap fC).length with q | q
     ·exact q
     ·rw[List.getElem?_eq_none q] at hu;cases hu
    rw[flat_len fC 8 (fun _=>rfl),RL] at hj;have hb:=h.hc (by omega);rw[ea] at hb;have hb:=Option.some.inj hb;rw[hb];exact flat_news fC 8 (by omega) (fun _=>rfl) (rowC x pa pk) bc 0 (fun i hi k hk=>by rw[Nat.zero_add,rowC_at x pa pk i hi];exact rc W1 e1 i (by rw[RL] at hi;exact hi) k hk) j u hu
  obtain⟨v',w',hrun,hown,hgr⟩:=grow;have eg:Ext W1 w':=⟨hgr.os,hgr.tape,hgr.output,hgr.size,fun k hk=>hgr.block k hk (by simp)⟩;have vk:0<vcap v':=by have:=own_kp hown;omega
  obtain⟨o1,o2,o3,o4,o5⟩:=own_kw hown vk;have vf:v'=.slice (some ⟨vblk v',0,none⟩) (x.cells.length+1) (vcap v'):=by rw[←o1];exact(own_form hown).1
  have hown2:w'.ownsRow W1.heap.size 134 8 v' (rowC x pa pk++[(c',Value.slice (some ⟨qb,0,none⟩) m m)]).length ((rowC x pa pk++[(c',Value.slice (some ⟨qb,0,none⟩) m m)]).flatMap fC):=by
   rw[List.length_append,RL,List.flatMap_append]
   simpa using hown
  have cz:=own_at (f:=fC) (fun _=>rfl) hown2;have hll:(rowC x pa pk++[(c',Value.slice (some ⟨qb,0,none⟩) m m)]).length=x.cells.length+1:=by rw[List.length_append,RL];rfl
  refine⟨vblk v',vcap v',w',by rw[←vf];exact hrun,⟨fun W e=>?_,(eg.block g g1.nf.1).trans (e1.block g h.nf.1),Nat.le_trans e1.size eg.size,(hx.trans e1).trans eg⟩⟩;obtain⟨b',hb'⟩:∃b',b'=vblk v':=⟨_,rfl⟩;rw[←hb'] at o3 o4 o5 cz ⊢;have gb:g≠b':=fun e=>by have:=g1.nf.1;omega
  have cS:∀j,(W.setCell ⟨g,4,none⟩ (.slice (some ⟨b',0,none⟩) (x.cells.length+1) (vcap v'))).cell? ⟨b',j,none⟩=w'.cell? ⟨b',j,none⟩:=fun j=>(cell_other _ (.inl gb)).trans ((bcell e).1 b' j o3.1)
  have key:∀j,j<8→(W.setCell ⟨g,4,none⟩ (.slice (some ⟨b',0,none⟩) (x.cells.length+1) (vcap v'))).cell? ⟨b',x.cells.length*8+j,none⟩=(fC (c',.slice (some ⟨qb,0,none⟩) m m))[j]?:=fun j hj=>by
   rw[cS,cz x.cells.length (by omega) j hj];have:(rowC x pa pk++[(c',Value.slice (some ⟨qb,0,none⟩) m m)])[x.cells.length]'(by omega)=(c',Value.slice (some ⟨qb,0,none⟩) m m):=by rw[List.getElem_append_right (by omega)];simp [RL]
   rw[this]
  have eW:Ext W1 W:=eg.trans e;have qg:qb≠g:=fun e=>by have:=np.lt;have:=h.nf.1;omega
  have npS:=(np.ext eW).only (S:=fun q=>q=g) (Only.setCell (S:=fun q=>q=g) (Only.refl _ W) (p:=⟨g,4,none⟩) rfl (.slice (some ⟨b',0,none⟩) (x.cells.length+1) (vcap v'))) qg;have hBb:B≤b':=by have:=e1.size;omega
  refine⟨_,_,_,_,_,_,_,_,_,_,_,h.newc r0 x.cells.length (Nat.le_refl _) c' b' (vcap v') qb (some ⟨qb,0,none⟩) m (by have:=eW.size;have:=e1.size;simp only [World.setCell,Array.size_modify];omega) (.inr (by have:=e1.size;omega)) (fun q hq h1 h2=>(Below.heap_setCell _ _ _ _ h1).trans ((e1.trans eW).block q hq)) ((g1.nf.ext eW).set _ _) ?_ ((o3.ext e).set _ _) (fun j hj=>?_) hBb (by rw[len];exact own_kp hown) ⟨key 0 (by omega),key 1 (by omega),key 2 (by omega),key 3 (by omega),key 4 (by omega),key 5 (by omega),key 6 (by omega)⟩ (by rw[ml];exact key 7 (by omega)) (fun q hq h1 j hj=>?_) (fun k hk=>?_) (by rw[ml];exact Nat.le_refl _) (fun hq=>⟨rfl,npS.nf,npS.lt,by have:=npS.lt;omega,fun e=>by have:=np.nf.1;omega⟩)⟩
  ·have:=(g1.bx.ext eW).set4 (.slice (some ⟨b',0,none⟩) (x.cells.length+1) (vcap v'));rw[len];exact this
  ·rw[cS];exact o4 j hj
  ·rw[cS,cz q (by omega) j hj];have:(rowC x pa pk++[(c',Value.slice (some ⟨qb,0,none⟩) m m)])[q]'(by omega)=(x.c q,.slice (pa q) (x.c q).prs.length (pk q)):=by rw[List.getElem_append_left (by omega)];exact rowC_at x pa pk q (by omega)
   rw[this];exact(rc w0 (Ext.refl _) q hq j hj).symm
  ·rw[rep_p c' m hm k];exact npS.z k (by omega)
theorem step_appC[Inhabited ProtD]{ops:Array Oper}{o:Oper}{a:Act}{K:Act→World→Prop}{Q:Exit→Act→World→Prop}{E:Prop}(W1:World)(hgd:o.guard=none)(s y:Operand)
  (ho:o.op=.call { callee:=.builtin .append,args:=#[s,y],argTypes:=#[117,117] })
  {B:Nat} {w0:World} {g:Nat} {x:Hp} {ar:Option Addr} {kr:Nat} {ac:Option Addr} {kc:Nat} {vg:Value} {br bc:Nat} {pb:Nat→Nat} {pa:Nat→Option Addr} {pk:Nat→Nat} {role:Nat→Nat} (h:GAt B w0 g x ar kr ac kc vg br bc pb pa pk role) (r0:0<x.regs.length) (n8:x.cells.length≤8000) (c':Cl) (m:Nat) (hm:c'.prs=List.replicate m Pr0) (qb:Nat) (e1:Ext w0 W1) (np:NewP w0 W1 qb m) (ad:Addr) (c:Nat)
  (hs:a.eval s=.slice ac x.cells.length kc) (hy:a.eval y=.slice (some ad) 1 c) (hz:∀j u,(fC (c',.slice (some ⟨qb,0,none⟩) m m))[j]?=some u→W1.cell? (ad.add j)=some u) (v:World) (hv:v.heap.size≤B) (hx:Ext v w0)
  (hK:∀b' k' w',AppC B g x c' v w0 b' k' w'→K (a.put o.dst (.slice (some ⟨b',0,none⟩) (x.cells.length+1) k')) w') :
  if Region.wanted o (yielded ops a.tmps)=true then Oper.wp Tryz.prog o a W1 K Q else E:=by
 have hw:Region.wanted o (yielded ops a.tmps)=true:=by simp [Region.wanted,hgd]
 rw[if_pos hw];obtain⟨b',k',w',hr,h3⟩:=appC_run h r0 n8 c' m hm qb o.type W1 e1 np ad c hz v hv hx;unfold Oper.wp execOp;simp only [ho,resolve,invoke,builtin,Sem.run_bind,Sem.run_pure,Result.andThen_ok,List.map_toArray,List.map_cons,List.map_nil,hs,hy,hr];exact hK b' k' w' h3
def stNext(x:Hp)(H:Nat→Bool)(k:Nat)(z:Hp):Hp:=
 if H k=true then { z with cells:=z.cells.set k (letC x H (x.c k)),used:=z.used-goes x H (x.c k) (x.c k).prs,sub:=letSub x H k z.sub }
 else if (x.c k).last=1 then { z with cells:=z.cells.set k (dueC (x.c k)) } else z
def stTo(x:Hp)(H:Nat→Bool):Nat→Hp
 | 0=>x
 | k+1=>stNext x H k (stTo x H k)
def RestH(x y:Hp):Prop:=x.room=y.room∧x.born=y.born∧x.regs=y.regs∧x.phase=y.phase∧x.hand=y.hand∧x.gray=y.gray∧x.per=y.per∧x.start=y.start∧x.rounds=y.rounds∧x.forced=y.forced
theorem RestH.refl(x:Hp):RestH x x:=⟨rfl,rfl,rfl,rfl,rfl,rfl,rfl,rfl,rfl,rfl⟩
theorem hp_eq{x y:Hp}(r:RestH x y)(hu:x.used=y.used)(hs:x.sub=y.sub)(hl:x.cells.length=y.cells.length)(hc:∀q,q<x.cells.length→x.c q=y.c q):x=y:=by
 have e:x.cells=y.cells:=List.ext_getElem hl fun i h1 h2=>by rw[Hp.c_eq x i h1,Hp.c_eq y i h2];exact hc i h1
 obtain⟨r1,r2,r3,r4,r5,r6,r7,r8,r9,r10⟩:=r;cases x;cases y;simp only at *;subst r1 r2 r3 r4 r5 r6 r7 r8 r9 r10 hu hs e;rfl
theorem stTo_rest(x:Hp)(H:Nat→Bool):∀k,RestH (stTo x H k) x
 | 0=>RestH.refl x
 | k+1=>by
  have ih:=stTo_rest x H k;show RestH (stNext x H k (stTo x H k)) x;unfold stNext
  split
  ·exact ih
  ·split
   ·exact ih
   ·exact ih
theorem cutTo_rest(x:Hp)(H:Nat→Bool):∀k,RestH (cutTo x H k) x
 | 0=>RestH.refl x
 | k+1=>by
  have ih:=cutTo_rest x H k;unfold cutTo
  split
  ·exact ih
  ·exact ih
theorem dueTo_rest(x z:Hp)(H:Nat→Bool):∀k,RestH (dueTo x z H k) z∧(dueTo x z H k).used=z.used∧(dueTo x z H k).sub=z.sub
 | 0=>⟨RestH.refl z,rfl,rfl⟩
 | k+1=>by
  have ih:=dueTo_rest x z H k;unfold dueTo
  split
  ·exact ih
  ·exact ih
theorem stTo_len(x:Hp)(H:Nat→Bool):∀k,(stTo x H k).cells.length=x.cells.length
 | 0=>rfl
 | k+1=>by
  have ih:=stTo_len x H k;show(stNext x H k (stTo x H k)).cells.length=_;unfold stNext
  split
  ·simpa using ih
  ·split
   ·simpa using ih
   ·exact ih
theorem stTo_cut(x:Hp)(H:Nat→Bool):∀k,(stTo x H k).used=(cutTo x H k).used∧(stTo x H k).sub=(cutTo x H k).sub
 | 0=>⟨rfl,rfl⟩
 | k+1=>by
  have ih:=stTo_cut x H k;show(stNext x H k (stTo x H k)).used=_∧(stNext x H k (stTo x H k)).sub=_;unfold stNext cutTo;by_cases h:H k=true
  ·rw[if_pos h,if_pos h];exact⟨by show(stTo x H k).used-_=(cutTo x H k).used-_;rw[ih.1],by show letSub x H k (stTo x H k).sub=letSub x H k (cutTo x H k).sub;rw[ih.2]⟩
  ·rw[if_neg h,if_neg h]
   split
   ·exact ih
   ·exact ih
theorem set_c(z:Hp)(u s:Int)(k:Nat)(c:Cl)(hk:k<z.cells.length)(q:Nat):({ z with cells:=z.cells.set k c,used:=u,sub:=s }:Hp).c q=if q=k then c else z.c q:=Hp.c_set z k c hk q
theorem stTo_c(x:Hp)(H:Nat→Bool):∀k,k≤x.cells.length→∀q,(stTo x H k).c q=if q<k then stlC x H q else x.c q
 | 0,_,q=>by rw[if_neg (by omega)];rfl
 | k+1,hk,q=>by
  have ih:=stTo_c x H k (by omega) q;have hl:k<(stTo x H k).cells.length:=by rw[stTo_len];omega
  show(stNext x H k (stTo x H k)).c q=_
  have key:(stNext x H k (stTo x H k)).c q=if q=k then stlC x H k else (stTo x H k).c q:=by
   unfold stNext stlC;by_cases h:H k=true
   ·rw[if_pos h,if_pos h];exact set_c _ _ _ k _ hl q
   ·rw[if_neg h,if_neg h];by_cases h2:(x.c k).last=1
    ·rw[if_pos h2,if_pos h2];exact Hp.c_set _ k _ hl q
    ·rw[if_neg h2,if_neg h2];by_cases e:q=k
     ·subst e;rw[if_pos rfl,ih,if_neg (by omega)]
     ·rw[if_neg e]
  rw[key,ih];by_cases e:q=k
  ·subst e;rw[if_pos rfl,if_pos (by omega)]
  ·rw[if_neg e];by_cases h:q<k
   ·rw[if_pos h,if_pos (by omega)]
   ·rw[if_neg h,if_neg (by omega)]
theorem dueTo_cc(x z:Hp)(H:Nat→Bool):∀k,k≤z.cells.length→∀q,(dueTo x z H k).c q=if q<k∧dueB x H q=true then dueC (x.c q) else z.c q
 | 0,_,q=>by rw[if_neg (by omega)];rfl
 | k+1,hk,q=>by
  have ih:=dueTo_cc x z H k (by omega) q;have hl:k<(dueTo x z H k).cells.length:=by rw[dueTo_len];omega
  unfold dueTo;by_cases h:dueB x H k=true
  ·rw[if_pos h];have:=Hp.c_set (dueTo x z H k) k (dueC (x.c k)) hl q;rw[this,ih];by_cases e:q=k
   ·subst e;rw[if_pos rfl,if_pos ⟨by omega,h⟩]
   ·rw[if_neg e];by_cases h2:q<k∧dueB x H q=true
    ·rw[if_pos h2,if_pos ⟨by omega,h2.2⟩]
    ·rw[if_neg h2,if_neg (fun h3=>h2 ⟨by omega,h3.2⟩)]
  ·rw[if_neg h,ih];by_cases h2:q<k∧dueB x H q=true
   ·rw[if_pos h2,if_pos ⟨by omega,h2.2⟩]
   ·rw[if_neg h2,if_neg (fun h3=>by
     by_cases e:q=k
     ·rw[e] at h3;exact h h3.2
     ·exact h2 ⟨by omega,h3.2⟩)]
theorem stTo_all(x:Hp)(H:Nat→Bool):stTo x H x.cells.length=settleH x H:=by
 have d:=dueTo_rest x (cutTo x H x.cells.length) H x.cells.length;have c:=cutTo_rest x H x.cells.length;have s:=stTo_rest x H x.cells.length;have u:=stTo_cut x H x.cells.length;have hlz:(cutTo x H x.cells.length).cells.length=x.cells.length:=cutTo_len x H _;refine hp_eq ?_ (by rw[u.1];exact d.2.1.symm) (by rw[u.2];exact d.2.2.symm) ?_ fun q hq=>?_
 ·obtain⟨d1,d2,d3,d4,d5,d6,d7,d8,d9,d10⟩:=d.1;obtain⟨c1,c2,c3,c4,c5,c6,c7,c8,c9,c10⟩:=c;obtain⟨s1,s2,s3,s4,s5,s6,s7,s8,s9,s10⟩:=s;exact⟨s1.trans (d1.trans c1).symm,s2.trans (d2.trans c2).symm,s3.trans (d3.trans c3).symm,s4.trans (d4.trans c4).symm,s5.trans (d5.trans c5).symm,s6.trans (d6.trans c6).symm,s7.trans (d7.trans c7).symm,s8.trans (d8.trans c8).symm,s9.trans (d9.trans c9).symm,s10.trans (d10.trans c10).symm⟩
 ·rw[stTo_len];unfold settleH;rw[dueTo_len,cutTo_len]
 ·have hq':q<x.cells.length:=by rw[stTo_len] at hq;exact hq
  rw[stTo_c x H _ (Nat.le_refl _) q,if_pos hq'];unfold settleH;rw[dueTo_cc x _ H _ (by rw[hlz];exact Nat.le_refl _) q,cutTo_c x H _ (Nat.le_refl _) q];unfold stlC dueB;cases h:H q
  ·by_cases h2:(x.c q).last=1
   ·rw[if_neg (by simp),if_pos h2,if_pos ⟨hq',by simp [h2]⟩]
   ·rw[if_neg (by simp),if_neg h2,if_neg (by simp [h2]),if_neg (by simp)]
  ·rw[if_pos rfl,if_neg (by simp),if_pos ⟨hq',rfl⟩]
end Go.Proofs.YtnegjhddmfiefaaGreatDoor
