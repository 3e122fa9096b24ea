import Derived.Test.YtnegjhddmfiefaaGreatDoorEj
import Derived.Test.YtnegjhddmfiefaaGreatDoorBb
import Derived.ArgAppend
set_option maxRecDepth 100000
set_option maxHeartbeats 100000000
namespace Go.Proofs.YtnegjhddmfiefaaGreatDoor
open Go.RowKit
attribute [local go_sem ↓] Go.wp_at_zero Go.wp_at_succ
theorem l5cell_or[p:Inhabited ProtD](B g:Nat)(x:Hp)(k:Nat)(op:Int)(a b c:Nat)(n:Int)(w:World)(h:GOk B w g x)(s:Snd x)(ha:a<16)(v:World)(hx:Ext v w)(dr:¬(x.r a).k=2→DoR x a b c n x 2 0 k)(hq:(x.r a).k=2→Calls Tryz.prog 178 #[.pointer (some ⟨g,0,none⟩),actV op a b c n] w fun e w'=>DoPost B g x a b c n k v e w'):
  Calls Tryz.prog 178 #[.pointer (some ⟨g,0,none⟩),actV op a b c n] w fun e w'=>DoPost B g x a b c n k v e w':=by
 by_cases hk:(x.r a).k=2
 ·exact hq hk
 ·exact(l5cell_no B g x op a b c n w h s ha hk v hx).mono fun e w2 hh=>⟨x,2,0,hh.1,dr hk,hh.2.1,hh.2.2⟩
def calK(k:Nat):FuncId:=if k≤8 then 177 else 178
theorem l5do_call[p:Inhabited ProtD](B g:Nat)(x:Hp)(k:Nat)(op:Int)(a b c:Nat)(n:Int)(w:World)(hk:(k=5∧op=5)∨(k=6∧op=6)∨(k=7∧op=7)∨(k=8∧op=8)∨(k=10∧op=10)∨(k=11∧op=11)∨(k=12∧op=12)∨(k=16∧op=16)∨(k=17∧op=17))(h:GOk B w g x)(ok:actOkB op a b c n=true)(v:World)(hx:Ext v w)
  (hq:∀(_:Inhabited ProtD) (w1:World),GOk B w1 g x→Ext v w1→Calls Tryz.prog (calK k) #[.pointer (some ⟨g,0,none⟩),actV op a b c n] w1 fun e w'=>DoPost B g x a b c n k v e w') :
  Calls Tryz.prog 147 #[.pointer (some ⟨g,0,none⟩),actV op a b c n] w fun e w'=>DoPost B g x a b c n k v e w':=by
 obtain⟨p1,o1,g1⟩:=GOk.enter h (w0:=doW w op a b c n) (((Ext.refl w).alloc _).alloc _);have HG:=hide g1;have O1:=hide o1;have QA:=hide (fun W=>specActOk_any op a b c n W);rw[ok] at QA;have V0:=hide (show v.heap.size≤w.heap.size+1 by have:=hx.size;omega);have XD:=hide (show Ext v (doW w op a b c n) from(hx.alloc _).alloc _);have BX:=hide (Boxes.new w op a b c n);clear h o1 g1;rcases hk with⟨rfl,rfl⟩ | ⟨rfl,rfl⟩ | ⟨rfl,rfl⟩ | ⟨rfl,rfl⟩ | ⟨rfl,rfl⟩ | ⟨rfl,rfl⟩ | ⟨rfl,rfl⟩ | ⟨rfl,rfl⟩ | ⟨rfl,rfl⟩
 all_goals
  go_enter Tryz.func147,Tryz.ntmps147;go_wp2_with fail;refine(unhide QA _).mono ?_;rintro e w1 ⟨rfl,x1⟩;have X1:=hide ((unhide XD).trans x1);have BX1:=hide ((unhide BX).ext x1);obtain⟨t0,t1,t2,t3,t4,t5,t6,t7⟩:=unhide BX1;have hw1:w.heap.size+1<w1.heap.size:=cell_lt t5;have hw0:w.heap.size<w1.heap.size:=cell_lt t0;have G1:=hide ((unhide HG).ext x1);have QP:=hide (hq p1 w1 (unhide G1) (unhide X1));clear x1 QA BX1 BX XD HG;go_wp2_with fail;refine(unhide QP).mono ?_;rintro e w3 ⟨y,cd,nm,he,dr,g3,x3⟩;have e2:=unhide he;subst e2;have G3:=hide (unhide g3);have X3:=hide x3;clear he g3 x3 QP;obtain⟨u0,u1,u2,u3,u4,u5,u6,u7⟩:=(unhide G3).boxes (unhide O1);have hw3:w.heap.size+1<w3.heap.size:=cell_lt u5;clear t0 t1 t2 t3 t4 t5 t6 t7;go_wp2_with fail;refine bodyPost_ret (v:=ansV cd nm) (by simp [results,Tryz.results147,go_sem,u5,u6]) rfl ?_;exact⟨y,cd,nm,rfl,unhide dr,GOk.done (unhide O1) (unhide G3) cd nm,putA_ext (unhide X3) (unhide V0) cd nm⟩
theorem dcell(w:World)(p:Addr):w.drew.cell? p=w.cell? p:=World.cell?_of_block (a:=p) rfl
theorem set_out(g:Nat):∀(vs:List Value) (o j:Nat) (w:World),(j<o∨o+vs.length≤j)→(w.setCells g o vs).cell? ⟨g,j,none⟩=w.cell? ⟨g,j,none⟩
 | [],_,_,_,_=>rfl
 | v::r,o,j,w,h=>by
  show((w.setCell ⟨g,o,none⟩ v).setCells g (o+1) r).cell? ⟨g,j,none⟩=_;simp only [List.length_cons] at h;rw[set_out g r (o+1) j _ (by omega)];exact cell_other _ (.inr (by omega))
theorem set_in(g:Nat):∀(vs:List Value) (o k:Nat) (w:World),(∀m,m<vs.length→∃u,w.cell? ⟨g,o+m,none⟩=some u)→k<vs.length→(w.setCells g o vs).cell? ⟨g,o+k,none⟩=vs[k]?
 | [],_,_,_,_,hk=>by simp at hk
 | v::r,o,0,w,hm,_=>by
  show((w.setCell ⟨g,o,none⟩ v).setCells g (o+1) r).cell? ⟨g,o+0,none⟩=_;rw[set_out g r (o+1) (o+0) _ (by omega)];obtain⟨u,hu⟩:=hm 0 (by simp);exact World.cell?_setCell_same _ _ _ hu
 | v::r,o,k+1,w,hm,hk=>by
  show((w.setCell ⟨g,o,none⟩ v).setCells g (o+1) r).cell? ⟨g,o+(k+1),none⟩=_
  have:=set_in g r (o+1) k (w.setCell ⟨g,o,none⟩ v) (fun m hm'=>by
   obtain⟨u,hu⟩:=hm (m+1) (by simp;omega);refine⟨u,?_⟩;rw[cell_other _ (.inr (by omega)),show o+1+m=o+(m+1) by omega];exact hu) (by simpa using hk)
  rw[show o+1+k=o+(k+1) by omega] at this;rw[this];rfl
theorem fP_len(L:List Pr):(L.flatMap fP).length=L.length*6:=by
 induction L with
 | nil=>rfl
 | cons a l ih=>simp only [List.flatMap_cons,List.length_append,ih,List.length_cons];simp [fP];omega
theorem fP_at{w:World}{b:Nat}:∀{L:List Pr} {o:Nat},(∀k (hk:k<L.length),PrAt w b (o+k*6) L[k])→∀j u,(L.flatMap fP)[j]?=some u→w.cell? ⟨b,o+j,none⟩=some u
 | [],_,_,j,u,hu=>by simp at hu
 | p::l,o,h,j,u,hu=>by
  rw[List.flatMap_cons] at hu;by_cases hj:j<6
  ·have h0:=h 0 (by simp);obtain⟨h0,h1,h2,h3,h4,h5⟩:=h0;simp only [Nat.zero_mul,Nat.add_zero,List.getElem_cons_zero] at h0 h1 h2 h3 h4 h5;rw[List.getElem?_append_left (by simp [fP];exact hj)] at hu
   match j,hj with
   | 0,_=>simp [fP] at hu;rw[←hu];exact h0
   | 1,_=>simp [fP] at hu;rw[←hu];exact h1
   | 2,_=>simp [fP] at hu;rw[←hu];exact h2
   | 3,_=>simp [fP] at hu;rw[←hu];exact h3
   | 4,_=>simp [fP] at hu;rw[←hu];exact h4
   | 5,_=>simp [fP] at hu;rw[←hu];exact h5
  ·have hl:(fP p).length=6:=rfl;rw[List.getElem?_append_right (by rw[hl];omega),hl] at hu
   have:=fP_at (w:=w) (b:=b) (L:=l) (o:=o+6) (fun k hk=>by
    have:=h (k+1) (by simp;omega);rw[show o+(k+1)*6=o+6+k*6 by omega] at this
    simpa using this) (j-6) u hu
   rw[show o+6+(j-6)=o+j by omega] at this;exact this
theorem GAt.pplace[Inhabited ProtD]{B:Nat}{w w':World}{g:Nat}{x:Hp}{ar:Option Addr}{kr:Nat}{ac:Option Addr}{kc:Nat}{vg:Value}{br bc:Nat}{pb:Nat→Nat}{pa:Nat→Option Addr}{pk:Nat→Nat}{role:Nat→Nat}(h:GAt B w g x ar kr ac kc vg br bc pb pa pk role)(i:Nat)(hi:i<x.cells.length)(L:List Pr)(hL:L.length≤pk i)(hk:0<pk i)(o:Only (fun q=>q=bc∨q=pb i) w w')(nfc:Nf1 bc w')(nfp:Nfp (pb i) (pk i) w')(c7:w'.cell? ⟨bc,i*8+7,none⟩=some (.slice (pa i) L.length (pk i)))(co:∀j,j≠i*8+7→w'.cell? ⟨bc,j,none⟩=w.cell? ⟨bc,j,none⟩)
  (hp:∀k,k<L.length→PrAt w' (pb i) (k*6) (L.getD k Pr0)) :
  GAt B w' g { x with cells:=x.cells.set i { x.c i with prs:=L } } ar kr ac kc vg br bc pb pa pk role:=by
 have hn:0<x.cells.length:=by omega
 have far:∀q,q<w.heap.size→role q≠3→role q≠6+i→w'.heap[q]?=w.heap[q]?:=fun q hq hr h6=>o.block q hq (fun e=>by
  rcases e with e | e
  ·exact hr (by rw[e];exact h.sp.c hn)
  ·exact h6 (by rw[e];exact h.sp.p i hi hk))
 have hl:({ x with cells:=x.cells.set i { x.c i with prs:=L } }:Hp).cells.length=x.cells.length:=by simp
 have hc:=Hp.c_set x i { x.c i with prs:=L } hi;have hne:∀q,q≠i→(({ x with cells:=x.cells.set i { x.c i with prs:=L } }:Hp).c q)=x.c q:=fun q e=>by rw[hc q,if_neg e]
 have hei:(({ x with cells:=x.cells.set i { x.c i with prs:=L } }:Hp).c i)={ x.c i with prs:=L }:=by rw[hc i,if_pos rfl]
 have fg:=far g h.nf.1 (by rw[h.sp.g];omega) (by rw[h.sp.g];omega);have pf:∀q,q<x.cells.length→q≠i→0<pk q→w'.heap[pb q]?=w.heap[pb q]?:=fun q hq hqi hl=>far (pb q) (h.rw.pl q hq hl).2.1.1 (by rw[h.sp.p q hq hl];omega) (by rw[h.sp.p q hq hl];omega)
 have fr:0<x.regs.length→w'.heap[br]?=w.heap[br]?:=fun hr=>far br (h.rw.nr hr).1.1 (by rw[h.sp.r hr];omega) (by rw[h.sp.r hr];omega)
 refine⟨?_,nf1_block h.nf fg o.size,h.lo,h.ha,fun _=>h.hc hn,⟨fun j hj=>?_,fun q hq=>?_,fun q hq=>?_,fun q hq j hj=>?_,fun q hq hlq=>?_,fun hr=>⟨nf1_block (h.rw.nr hr).1 (fr hr) o.size,(h.rw.nr hr).2⟩,fun _=>⟨nfc,(h.rw.nc hn).2⟩,fun _=>h.rw.d hn,fun q q' hq hq' hqq h1 h2=>?_,fun q hq=>?_⟩,h.gr.block (fun q hq=>far q (h.gr.lt q hq).2 (by rw[h.sp.y q hq];omega) (by rw[h.sp.y q hq];omega)),⟨h.sp.g,h.sp.r,fun _=>h.sp.c hn,h.sp.y,fun q hq hlq=>?_⟩,by rw[hl];exact h.kl,h.pr.of (fun q hq h1=>far q hq (by rw[h1];omega) (by rw[h1];omega)) (fun _ _ h=>h),fun hk=>(h.cc hk).cells rfl nfc (fun j v _ hv=>?_)⟩
 ·rw[hl];exact h.bx.block fg
 ·exact(h.rw.r j hj).of fun m _=>World.cell?_of_block (a:=⟨br,_,none⟩) (fr (by have:j<x.regs.length:=hj;omega))
 ·rw[hl] at hq;have key:S7 w' bc (q*8) (x.c q):=(h.rw.s q hq).of fun m hm=>co _ (by omega)
  by_cases e:q=i
  ·subst e;rw[hei];exact key
  ·rw[hne q e];exact key
 ·rw[hl] at hq;by_cases e:q=i
  ·subst e;rw[hei];exact c7
  ·rw[hne q e,co _ (by omega)];exact h.rw.p7 q hq
 ·rw[hl] at hq;by_cases e:q=i
  ·subst e;rw[hei] at hj ⊢;exact hp j hj
  ·rw[hne q e] at hj ⊢;exact(h.rw.p q hq j hj).of fun m _=>World.cell?_of_block (a:=⟨pb q,_,none⟩) (pf q hq e (h.rw.pw hq (by omega)))
 ·rw[hl] at hq;obtain⟨a1,a2,a3,a4⟩:=h.rw.pl q hq hlq;by_cases e:q=i
  ·subst e;exact⟨a1,nfp,a3,a4⟩
  ·exact⟨a1,nfp_block a2 (pf q hq e hlq) o.size,a3,a4⟩
 ·rw[hl] at hq hq';exact h.rw.dp q q' hq hq' hqq h1 h2
 ·rw[hl] at hq;by_cases e:q=i
  ·subst e;rw[hei];exact hL
  ·rw[hne q e];exact h.rw.kp q hq
 ·rw[hl] at hq;exact h.sp.p q hq hlq
 ·by_cases e:j=i*8+7
  ·rw[e];exact⟨_,c7⟩
  ·exact⟨v,(co j e).trans hv⟩
abbrev moreP(x:Hp)(i:Nat):Hp:={ x with cells:=x.cells.set i { x.c i with prs:=(x.c i).prs++[Pr0] } }
structure AppP[Inhabited ProtD](B:Nat)(g:Nat)(x:Hp)(ar:Option Addr)(kr:Nat)(ac:Option Addr)(kc:Nat)(vg:Value)(br bc:Nat)(i:Nat)(v w:World)(a':Option Addr)(k':Nat)(w':World):Prop where
 gk:∀W,Ext w' W→GK B (W.setCell ⟨bc,i*8+7,none⟩ (.slice a' ((x.c i).prs.length+1) k')) g (moreP x i) ar kr ac kc vg br bc
 far:∀q,q=g∨q=bc→w'.heap[q]?=w.heap[q]?
 sz:w.heap.size≤w'.heap.size
 ex:Ext v w'
 nf:Nf1 bc w'
theorem flat_more(L:List Pr):L.flatMap fP++fP Pr0=(L++[Pr0]).flatMap fP:=by simp
theorem appP_run[Inhabited ProtD]{B:Nat}{w:World}{g:Nat}{x:Hp}{ar:Option Addr}{kr:Nat}{ac:Option Addr}{kc:Nat}{vg:Value}{br bc:Nat}{pb:Nat→Nat}{pa:Nat→Option Addr}{pk:Nat→Nat}{role:Nat→Nat}(h:GAt B w g x ar kr ac kc vg br bc pb pa pk role)(i:Nat)(hi:i<x.cells.length)(r0:0<x.regs.length)(h2:(x.c i).prs.length<200)(ty:TypeId)(W1:World)(e1:Ext w W1)(ad:Addr)(c:Nat)(hz:∀j u,(fP Pr0)[j]?=some u→W1.cell? (ad.add j)=some u)(v:World)(hv:v.heap.size≤B)(hx:Ext v w):
  ∃a' k' w',(Builtin.append_ #[132,132] ty #[.slice (pa i) (x.c i).prs.length (pk i),.slice (some ad) 1 c]).run Tryz.prog W1=.ok (.slice a' ((x.c i).prs.length+1) k') w'∧AppP B g x ar kr ac kc vg br bc i v w a' k' w':=by
 have h1:=h.ext e1;obtain⟨i0,hi0,hz0,hz1,hz2⟩:=info_parts infoPairs;have hn:0<x.cells.length:=by omega
 have one:∀u∈fP Pr0,u.oneCell'=true:=fun u hu=>by simp [fP,Pr0] at hu;subst hu;rfl
 have hnc:=(h1.rw.nc hn).1;have lk:=h1.rw.kp i hi;by_cases hr:(x.c i).prs.length+1≤pk i
 ·have hk:0<pk i:=by omega
  obtain⟨a1,a2,a3,a4⟩:=h1.rw.pl i hi hk
  have hrun:=run_append_room_cells (P:=Tryz.prog) W1 132 ty 178 i0 Tryz.underlying132 hi0 (pb i) 0 (x.c i).prs.length (pk i) ad 1 c (fP Pr0) (by rw[hz1];rfl) hz one hr (fun j hj=>by
   have hj:j<6:=hj;obtain⟨u,hu⟩:=a2.3 (0+(x.c i).prs.length*i0.size+j) (by rw[hz1];omega);rw[hu];rfl) (fun j _=>a2.2 _)
  rw[hz1,Nat.zero_add] at hrun;have oP:Only (fun q=>q=pb i) W1 (W1.setCells (pb i) ((x.c i).prs.length*6) (fP Pr0)):=put_only (S:=fun q=>q=pb i) rfl (Only.refl _ W1);have nbc:bc≠pb i:=fun e=>a3.2 e.symm
  have fbc:=oP.block bc hnc.1 nbc;refine⟨pa i,pk i,_,by rw[a1];exact hrun,⟨fun W e=>⟨pb,pa,pk,role,?_⟩,fun q hq=>?_,Nat.le_trans e1.size oP.size,oP.ext (hx.trans e1) (fun q hq e=>by omega),nf1_block hnc fbc oP.size⟩⟩
  ·have oW:Only (fun q=>q=pb i) W1 W:=oP.trans (Only.of_ext e);have fW:=oW.block bc hnc.1 nbc;refine h1.pplace i hi ((x.c i).prs++[Pr0]) (by simpa using hr) hk (Only.setCell (oW.mono (fun q e=>.inr e)) (p:=⟨bc,i*8+7,none⟩) (.inl rfl) _) ((nf1_block hnc fW oW.size).set _ _) ((a2.put.ext e).set _ _) ?_ (fun j hj=>?_) (fun k hk=>?_)
   ·rw[List.length_append];exact World.cell?_setCell_same _ _ _ ((World.cell?_of_block (a:=⟨bc,i*8+7,none⟩) fW).trans (h1.rw.p7 i hi))
   ·rw[cell_other _ (.inr (fun e=>hj e.symm))];exact World.cell?_of_block (a:=⟨bc,j,none⟩) fW
   ·have oth:∀m,(W.setCell ⟨bc,i*8+7,none⟩ (.slice (pa i) ((x.c i).prs.length+1) (pk i))).cell? ⟨pb i,m,none⟩=(W1.setCells (pb i) ((x.c i).prs.length*6) (fP Pr0)).cell? ⟨pb i,m,none⟩:=fun m=>by
     rw[cell_other _ (.inl (fun e=>nbc e))];exact(bcell e).1 (pb i) m (Nat.lt_of_lt_of_le a2.1 oP.size)
    by_cases ek:k<(x.c i).prs.length
    ·have eg:((x.c i).prs++[Pr0]).getD k Pr0=(x.c i).p k:=by simp [Cl.p,List.getElem?_append_left ek]
     rw[eg];exact(h1.rw.p i hi k ek).of fun j hj=>by rw[oth,set_out (pb i) _ _ _ W1 (by omega)]
    ·have ek2:k=(x.c i).prs.length:=by simp at hk;omega
     subst ek2;have eg:((x.c i).prs++[Pr0]).getD (x.c i).prs.length Pr0=Pr0:=by simp
     rw[eg]
     have key:∀m,m<6→(W.setCell ⟨bc,i*8+7,none⟩ (.slice (pa i) ((x.c i).prs.length+1) (pk i))).cell? ⟨pb i,(x.c i).prs.length*6+m,none⟩=(fP Pr0)[m]?:=fun m hm=>by
      rw[oth];exact set_in (pb i) (fP Pr0) _ m W1 (fun m hm=>a2.3 _ (by have:m<6:=hm;omega)) hm
     exact⟨key 0 (by omega),key 1 (by omega),key 2 (by omega),key 3 (by omega),key 4 (by omega),key 5 (by omega)⟩
  ·rcases hq with rfl | rfl
   ·refine(oP.block q h1.nf.1 ?_).trans (e1.block q h.nf.1);exact(fun e=>by have s1:=h.sp.g;have s2:=h.sp.p i hi hk;rw[e] at s1;omega)
   ·exact fbc.trans (e1.block q (h.rw.nc hn).1.1)
 ·have grow:∃v' w',(Builtin.append_ #[132,132] ty #[.slice (pa i) (x.c i).prs.length (pk i),.slice (some ad) 1 c]).run Tryz.prog W1=.ok v' w'∧w'.ownsRow W1.heap.size 178 6 v' ((x.c i).prs.length+1) ((x.c i).prs.flatMap fP++fP Pr0)∧W1.grownBy w' none:=by
   have hmax:(x.c i).prs.length+1≤maxLen:=by unfold maxLen;omega
   cases ep:pa i with
   | none=>
    have k0:pk i=0:=by
     rcases Nat.eq_zero_or_pos (pk i) with k0 | k0
     ·exact k0
     ·have:=(h1.rw.pl i hi k0).1;rw[ep] at this;cases this
    have l0:(x.c i).prs=[]:=List.eq_nil_of_length_eq_zero (by omega);rw[k0,l0];obtain⟨v',w',r1,r2,r3,_⟩:=run_append_own (P:=Tryz.prog) W1 W1.heap.size 132 ty 178 i0 _ 6 48 Tryz.underlying132 hi0 hz0 hz1 hz2 rfl (by decide) (.slice none 0 0) 0 [] (World.ownsRow_nil W1 _ _ _) ad 1 c (fP Pr0) rfl hz one (by unfold maxLen;omega) (by decide) (Nat.le_refl _);exact⟨v',w',r1,r2,r3⟩
   | some b=>
    refine run_append_arg_grows (P:=Tryz.prog) W1 132 ty 178 i0 _ 6 48 Tryz.underlying132 hi0 hz0 hz1 hz2 rfl (by decide) b _ _ ((x.c i).prs.flatMap fP) (fP_len _) (fun j u hu=>?_) ad 1 c (fP Pr0) rfl hz (by omega) hmax (by omega)
    have hj:j<((x.c i).prs.flatMap fP).length:=by
     rcases Nat.lt_or_ge j ((x.c i).prs.flatMap fP).length with q | q
     ·exact q
     ·rw[List.getElem?_eq_none q] at hu;cases hu
    rw[fP_len] at hj;have hk:0<pk i:=by omega
    have hb:=(h1.rw.pl i hi hk).1;rw[ep] at hb;have hb:=Option.some.inj hb;rw[hb,Addr.add_lit];exact fP_at (o:=0) (fun k hk=>by rw[Nat.zero_add,Cl.p_eq _ _ hk];exact h1.rw.p i hi k hk) j u hu
  obtain⟨v',w',hrun,hown,hgr⟩:=grow;have eg:Ext W1 w':=⟨hgr.os,hgr.tape,hgr.output,hgr.size,fun k hk=>hgr.block k hk (by simp)⟩;obtain⟨a',k',rfl⟩:=own_sl hown;refine⟨a',k',w',hrun,⟨fun W e=>?_,fun q hq=>?_,Nat.le_trans e1.size hgr.size,(hx.trans e1).trans eg,hnc.ext eg⟩⟩
  ·have ow:W.ownsRow W1.heap.size 178 6 (.slice a' ((x.c i).prs++[Pr0]).length k') ((x.c i).prs++[Pr0]).length (((x.c i).prs++[Pr0]).flatMap fP):=by
    rw[←flat_more,List.length_append];exact ownsRow_of_block hown (fun q hq=>e.block q (hown.lt q hq).2)
   have:=prow_own h1 i hi r0 ((x.c i).prs++[Pr0]) a' k' (eg.trans e) ow;rw[List.length_append] at this;exact this
  ·rcases hq with rfl | rfl
   ·exact(eg.block q h1.nf.1).trans (e1.block q h.nf.1)
   ·exact(eg.block q hnc.1).trans (e1.block q (h.rw.nc hn).1.1)
theorem step_appP[Inhabited ProtD]{ops:Array Oper}{o:Oper}{a:Act}{K:Act→World→Prop}{Q:Exit→Act→World→Prop}{E:Prop}(W1:World)(hgd:o.guard=none)(s y:Operand)
  (ho:o.op=.call { callee:=.builtin .append,args:=#[s,y],argTypes:=#[132,132] })
  {B:Nat} {w:World} {g:Nat} {x:Hp} {ar:Option Addr} {kr:Nat} {ac:Option Addr} {kc:Nat} {vg:Value} {br bc:Nat} {pb:Nat→Nat} {pa:Nat→Option Addr} {pk:Nat→Nat} {role:Nat→Nat} (h:GAt B w g x ar kr ac kc vg br bc pb pa pk role) (i:Nat) (hi:i<x.cells.length) (r0:0<x.regs.length) (h2:(x.c i).prs.length<200) (e1:Ext w W1) (ad:Addr) (c:Nat)
  (hs:a.eval s=.slice (pa i) (x.c i).prs.length (pk i)) (hy:a.eval y=.slice (some ad) 1 c) (hz:∀j u,(fP Pr0)[j]?=some u→W1.cell? (ad.add j)=some u) (v:World) (hv:v.heap.size≤B) (hx:Ext v w)
  (hK:∀a' k' w',AppP B g x ar kr ac kc vg br bc i v w a' k' w'→K (a.put o.dst (.slice a' ((x.c i).prs.length+1) k')) w') :
  if Region.wanted o (yielded ops a.tmps)=true then Oper.wp Tryz.prog o a W1 K Q else E:=by
 have hw:Region.wanted o (yielded ops a.tmps)=true:=by simp [Region.wanted,hgd]
 rw[if_pos hw];obtain⟨a',k',w',hr,h3⟩:=appP_run h i hi r0 h2 o.type W1 e1 ad c hz v hv hx;unfold Oper.wp execOp;simp only [ho,resolve,invoke,builtin,Sem.run_bind,Sem.run_pure,Result.andThen_ok,List.map_toArray,List.map_cons,List.map_nil,hs,hy,hr];exact hK a' k' w' h3
theorem shadeW_regs(x:Hp)(y:Wd):(shadeW x y).regs=x.regs:=by
 unfold shadeW
 split
 ·exact(shade_same x _).2.2.2.1
 ·rfl
theorem fold_regs:∀(ys:List Wd) (z:Hp),(ys.foldl shadeW z).regs=z.regs
 | [],_=>rfl
 | y::ys,z=>(fold_regs ys (shadeW z y)).trans (shadeW_regs z y)
theorem uregs1(x:Hp):(unit1 x).regs=x.regs:=by
 unfold unit1
 split
 ·rfl
 ·by_cases e:spkB (x.c x.hand.toNat)=true
  ·simp only [if_pos e];exact(shade_same x _).2.2.2.1
  ·simp only [if_neg e]
theorem uregs2(x:Hp):(unit2 x).regs=x.regs:=by
 unfold unit2
 split
 ·split
  ·exact(shadeW_regs _ _).trans (shadeW_regs _ _)
  ·rfl
 ·split
  ·exact fold_regs x.regs x
  ·exact fold_regs x.regs x
theorem uregs3(x:Hp):(unit3 x).regs=x.regs:=by
 unfold unit3
 split
 ·rfl
 ·split <;> rfl
theorem uregs5(x:Hp):(unit5 x).regs=x.regs:=by
 unfold unit5
 split
 ·rfl
 ·split <;> rfl
theorem uregs6(x:Hp):(unit6 x).regs=x.regs:=by
 unfold unit6 dropH
 split
 ·rfl
 ·split <;> rfl
def KpN(x y:Hp)(a:Nat):Prop:=(y.r a).k=2∧(y.c (y.at a)).prs.length=(x.c (x.at a)).prs.length
theorem KpN.same{x y:Hp}{a:Nat}(hr:y.regs=x.regs)(h2:(x.r a).k=2)(hc:(y.c (x.at a)).prs.length=(x.c (x.at a)).prs.length):KpN x y a:=by
 have e:y.r a=x.r a:=by unfold Hp.r;rw[hr]
 unfold KpN Hp.at;rw[e];exact⟨h2,hc⟩
theorem KpN.unit4{x:Hp}(s:Snd x){a:Nat}(ha:a<16)(h2:(x.r a).k=2):KpN x (unit4 x) a:=by
 obtain⟨_,ea,hi,s1,_⟩:=s.at a ha h2;unfold Go.Proofs.YtnegjhddmfiefaaGreatDoor.unit4
 split
 ·exact KpN.same rfl h2 rfl
 ·rename_i hlt;obtain⟨t,et⟩:∃t,t=fstFree x:=⟨_,rfl⟩;have ft:=fstFree_is x;rcases lstUsed_is x x.cells.length with⟨l1,_⟩ | ⟨f,l1,l2,l3,_⟩
  ·omega
  ·rw[l1] at hlt ⊢;rw[←et] at ft hlt ⊢;have e0:((f:Int)).toNat=f:=by omega
   rw[e0];have tl:t<x.cells.length:=by omega
   have t0:=ft.2.2 tl
   have mc:∀q,(moveH x t f).c q=if q=f then mvC t else if q=t then x.c f else x.c q:=fun q=>by
    show({ ({ x with cells:=x.cells.set t (x.c f) }:Hp) with cells:=(x.cells.set t (x.c f)).set f (mvC t) }:Hp).c q=_;rw[Hp.c_set ({ x with cells:=x.cells.set t (x.c f) }:Hp) f (mvC t) (by simp;omega) q,Hp.c_set x t (x.c f) tl q]
   have er:(moveH x t f).r a=mvW t f (x.r a):=by
    have ra:=s.r1.regs;unfold Hp.r;show(x.regs.map (mvW t f)).getD a Wd0=_;rw[List.getD_eq_getElem?_getD,List.getD_eq_getElem?_getD,List.getElem?_map,List.getElem?_eq_getElem (by omega)];rfl
   unfold KpN Hp.at;rw[er];unfold mvW;by_cases e:(x.r a).a=(f:Int)
   ·rw[if_pos ⟨h2,e⟩];refine⟨rfl,?_⟩;show((moveH x t f).c ((t:Int)).toNat).prs.length=_;rw[show((t:Int)).toNat=t by omega,mc t,if_neg (by omega),if_pos rfl,e,e0]
   ·rw[if_neg (fun u=>e u.2)];refine⟨h2,?_⟩;have hx:(x.r a).a.toNat=x.at a:=rfl;rw[hx,mc,if_neg (by omega),if_neg (fun u=>by rw[u] at s1;omega)]
theorem KpN.unit{x:Hp}(s:Snd x){a:Nat}(ha:a<16)(h2:(x.r a).k=2):KpN x (unitH x) a:=by
 obtain⟨_,ea,hi,s1,nd⟩:=s.at a ha h2;unfold unitH
 split
 ·exact KpN.same (uregs1 x) h2 (uprs1 x _)
 split
 ·exact KpN.same (uregs2 x) h2 (uprs2 x _)
 split
 ·rename_i e;exact KpN.same (uregs3 x) h2 (uprs3 x s e _ hi s1 nd)
 split
 ·exact KpN.unit4 s ha h2
 split
 ·exact KpN.same (uregs5 x) h2 (uprs5 x _)
 split
 ·exact KpN.same (uregs6 x) h2 (uprs6 x s _ hi s1)
 ·exact KpN.same rfl h2 rfl
theorem KpN.it{x:Hp}(s:Snd x){a:Nat}(ha:a<16)(h2:(x.r a).k=2):∀k,KpN x (itU k x) a
 | 0=>⟨h2,rfl⟩
 | k+1=>by
  have i:=KpN.it s ha h2 k;have j:=KpN.unit (s.itU k) ha i.1;exact⟨j.1,j.2.trans i.2⟩
theorem KpN.room{x z:Hp}{u:Nat}(s:Snd x){a:Nat}(ha:a<16)(h2:(x.r a).k=2)(h:RoomIs x u z):KpN x z a:=by
 rcases h with h | ⟨_,y,h3,h4⟩
 ·rw[h.2];exact⟨h2,rfl⟩
 ·have sf:=s.forceTo;have sy:=h3.snd sf;obtain⟨k,_,e⟩:=h3;obtain⟨m,_,e2⟩:=h4;have i:KpN (forceTo x) y a:=by rw[e];exact KpN.it sf ha h2 k
  have j:KpN (toPh y 1 0) z a:=by rw[e2];exact KpN.it (sy.1.begin sy.2) ha i.1 m
  exact⟨j.1,j.2.trans i.2⟩
theorem GrowIs.snd{x:Hp}{a c i:Nat}{y:Hp}{cd nm:Int}(s:Snd x)(ha:a<16)(h2:(x.r a).k=2)(hi:i=x.at a)(h:GrowIs x a c i y cd nm):Snd y:=by
 rcases h.2 with h | ⟨hl,z,hz,h | h⟩
 ·rw[h.2.1];exact s
 ·rw[h.2.1];exact hz.snd s
 ·have sz:=hz.snd s;obtain⟨k1,k2⟩:=KpN.room s ha h2 hz;obtain⟨_,_,p3,p4,_⟩:=sz.at a ha k1;have hu:z.used+c≤z.room:=by have e:=h.1;unfold fitsB at e;exact of_decide_eq_true e
  exact h.2.2.snd (sz.grow (z.at a) c p3 p4 (by rw[k2,←hi];exact hl) hu)
end Go.Proofs.YtnegjhddmfiefaaGreatDoor
