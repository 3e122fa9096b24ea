import Derived.Test.YtddkhnclmeikfaaGreatImpR
import Derived.Test.YtddkhnclmeikfaaGreatAg
import Derived.Test.YtddkhnclmeikfaaGreatRby
import Derived.Test.YtddkhnclmeikfaaGreatImpB5
import Derived.Test.YtddkhnclmeikfaaGreatHc
import Derived.OwnWalk
set_option maxRecDepth 100000
set_option maxHeartbeats 4000000
namespace Go.Proofs.YtddkhnclmeikfaaGreat
open Go.RowKit
attribute [local go_sem ↓] Go.wp_at_zero Go.wp_at_succ
theorem GAt.turn[Inhabited ProtD]{B:Nat}{w w':World}{g:Nat}{x:Hp}{ar:Option Addr}{kr:Nat}{ac:Option Addr}{kc:Nat}{vg:Value}{br bc:Nat}{pb:Nat→Nat}{pa:Nat→Option Addr}{pk:Nat→Nat}{role:Nat→Nat}(h:GAt B w g x ar kr ac kc vg br bc pb pa pk role)(cs:List Cl)(hl:cs.length=x.cells.length)(so:Nat→Nat)(pa':Nat→Option Addr)(pk':Nat→Nat)(role':Nat→Nat)(hn:0<x.cells.length)
  (o:Only (fun q=>q=bc) w w') (nf:Nf1 bc w')
  (hs:∀q,q<x.cells.length→S7 w' bc (q*8) (({ x with cells:=cs }:Hp).c q))
  (h7:∀q,q<x.cells.length→w'.cell? ⟨bc,q*8+7,none⟩=some (.slice (pa' q) (({ x with cells:=cs }:Hp).c q).prs.length (pk' q)))
  (hkp:∀q,q<x.cells.length→(({ x with cells:=cs }:Hp).c q).prs.length≤pk' q)
  (hso:∀q,q<x.cells.length→0<pk' q→(so q<x.cells.length∧pk' q=pk (so q))∧(x.c (so q)).prs=(({ x with cells:=cs }:Hp).c q).prs∧pa' q=pa (so q)∧role' (pb (so q))=6+q)
  (hro:∀q,role q<6→role' q=role q) (hcc:∀j,x.cells.length*8≤j→w'.cell? ⟨bc,j,none⟩=w.cell? ⟨bc,j,none⟩) :
  GAt B w' g { x with cells:=cs } ar kr ac kc vg br bc (fun q=>pb (so q)) pa' pk' role':=by
 have far:∀q,q<w.heap.size→role q≠3→w'.heap[q]?=w.heap[q]?:=fun q hq hr=>o.block q hq (fun e=>hr (by rw[e];exact h.sp.c hn))
 have hl':({ x with cells:=cs }:Hp).cells.length=x.cells.length:=hl;have fg:=far g h.nf.1 (by rw[h.sp.g];omega);have pf:∀q,q<x.cells.length→0<pk q→w'.heap[pb q]?=w.heap[pb q]?:=fun q hq hl=>far (pb q) (h.rw.pl q hq hl).2.1.1 (by rw[h.sp.p q hq hl];omega)
 refine⟨?_,nf1_block h.nf fg o.size,h.lo,h.ha,fun _=>h.hc hn,⟨fun k hk=>?_,fun q hq=>?_,fun q hq=>?_,fun q hq k hk=>?_,fun q hq hlq=>?_,fun hr=>⟨nf1_block (h.rw.nr hr).1 (far br (h.rw.nr hr).1.1 (by rw[h.sp.r hr];omega)) o.size,(h.rw.nr hr).2⟩,fun _=>⟨nf,(h.rw.nc hn).2⟩,fun _=>h.rw.d hn,fun q q' hq hq' hne h1 h2=>?_,fun q hq=>?_⟩,h.gr.block (fun q hq=>far q (h.gr.lt q hq).2 (by rw[h.sp.y q hq];omega)),⟨?_,fun hr=>?_,fun _=>?_,fun q hq=>?_,fun q hq hlq=>?_⟩,by rw[hl'];exact h.kl,h.pr.of (fun q hq h1=>far q hq (by rw[h1];omega)) (fun q _ h1=>by rw[hro q (by rw[h1];omega)];exact h1),fun hk=>(h.cc hk).cells (hro bc (by rw[(h.cc hk).ro];omega)) nf (fun j v _ hv=>?_)⟩
 ·rw[hl'];exact(h.bx.block fg)
 ·exact(h.rw.r k hk).of fun j _=>World.cell?_of_block (a:=⟨br,_,none⟩) (far br (h.rw.nr (by have:k<x.regs.length:=hk;omega)).1.1 (by rw[h.sp.r (by have:k<x.regs.length:=hk;omega)];omega))
 ·rw[hl'] at hq;exact hs q hq
 ·rw[hl'] at hq;exact h7 q hq
 ·rw[hl'] at hq;obtain⟨⟨a1,_⟩,a2,_⟩:=hso q hq (by have:=hkp q hq;omega);have e2:(({ x with cells:=cs }:Hp).c q).p k=(x.c (so q)).p k:=by simp only [Cl.p,a2]
  rw[←a2] at hk;rw[e2];exact(h.rw.p (so q) a1 k hk).of fun j _=>World.cell?_of_block (a:=⟨pb (so q),_,none⟩) (pf (so q) a1 (h.rw.pw a1 (by omega)))
 ·rw[hl'] at hq;obtain⟨⟨a1,a0⟩,a2,a3,_⟩:=hso q hq hlq;rw[a0] at hlq;obtain⟨b1,b2,b3⟩:=h.rw.pl (so q) a1 hlq;exact⟨a3.trans b1,by rw[a0];exact nfp_block b2 (pf (so q) a1 hlq) o.size,b3⟩
 ·rw[hl'] at hq hq';intro e;have r1:=(hso q hq h1).2.2.2;have r2:=(hso q' hq' h2).2.2.2;have e':pb (so q)=pb (so q'):=e;rw[e',r2] at r1;omega
 ·rw[hl'] at hq;exact hkp q hq
 ·rw[hro g (by rw[h.sp.g];omega)];exact h.sp.g
 ·have:=h.sp.r hr;rw[hro br (by omega)];exact this
 ·have:=h.sp.c hn;rw[hro bc (by omega)];exact this
 ·have:=h.sp.y q hq;rw[hro q (by omega)];exact this
 ·rw[hl'] at hq;exact(hso q hq hlq).2.2.2
 ·by_cases e:x.cells.length*8≤j
  ·exact⟨v,(hcc j e).trans hv⟩
  ·by_cases e7:j % 8=7
   ·have:=h7 (j / 8) (by omega);rw[show j / 8*8+7=j by omega] at this;exact⟨_,this⟩
   ·have:=(hs (j / 8) (by omega)).some (j % 8) (by omega);rw[show j / 8*8+j % 8=j by omega] at this;exact this
theorem GAt.clear[Inhabited ProtD]{B:Nat}{w w':World}{g:Nat}{x:Hp}{ar:Option Addr}{kr:Nat}{ac:Option Addr}{kc:Nat}{vg:Value}{br bc:Nat}{pb:Nat→Nat}{pa:Nat→Option Addr}{pk:Nat→Nat}{role:Nat→Nat}(h:GAt B w g x ar kr ac kc vg br bc pb pa pk role)(i:Nat)(hi:i<x.cells.length)(c':Cl)(hp:c'.prs=[])(o:Only (fun q=>q=bc) w w')(nf:Nf1 bc w')(hs:S7 w' bc (i*8) c')(h7:w'.cell? ⟨bc,i*8+7,none⟩=some (.slice none 0 0))(ho:∀k,(k<i*8∨i*8+8≤k)→w'.cell? ⟨bc,k,none⟩=w.cell? ⟨bc,k,none⟩):
  GAt B w' g { x with cells:=x.cells.set i c' } ar kr ac kc vg br bc pb (fun q=>if q=i then none else pa q) (fun q=>if q=i then 0 else pk q) role:=by
 have hc:=Hp.c_set x i c' hi;refine h.turn (x.cells.set i c') (by simp) (fun q=>q) _ _ role (by omega) o nf (fun q hq=>?_) (fun q hq=>?_) (fun q hq=>?_) (fun q hq hl=>?_) (fun _ _=>rfl) (fun j hj=>ho j (by omega))
 ·rw[hc q];by_cases e:q=i
  ·subst e;rw[if_pos rfl];exact hs
  ·rw[if_neg e];exact(h.rw.s q hq).of fun j hj=>ho _ (by omega)
 ·rw[hc q];by_cases e:q=i
  ·subst e;simp only [if_true,hp];exact h7
  ·simp only [if_neg e];rw[ho _ (by omega)];exact h.rw.p7 q hq
 ·rw[hc q];by_cases e:q=i
  ·rw[if_pos e,hp];simp
  ·rw[if_neg e,if_neg e];exact h.rw.kp q hq
 ·rw[hc q];by_cases e:q=i
  ·rw[if_pos e] at hl;omega
  ·rw[if_neg e] at hl;exact⟨⟨hq,if_neg e⟩,by rw[if_neg e],if_neg e,h.sp.p q hq hl⟩
theorem GOk.set1[Inhabited ProtD]{B:Nat}{w:World}{g:Nat}{x:Hp}(h:GOk B w g x)(v:Int):GOk B (w.setCell ⟨g,1,none⟩ (iv v)) g { x with used:=v }:=by
 obtain⟨ar,kr,ac,kc,vg,br,bc,pb,pa,pk,role,h⟩:=h;exact⟨_,_,_,_,_,_,_,_,_,_,_,h.boxed (x':={ x with used:=v }) (Only.setCell (S:=fun q=>q=g) (Only.refl _ w) (p:=⟨g,1,none⟩) rfl _) (h.nf.set _ _) rfl rfl rfl (h.bx.set1 v)⟩
theorem wrap_fit(n:Int)(h0:-1000000≤n)(h1:n≤1000000):wrap64 n=n:=by unfold wrap64;omega
theorem cs_same{w:World}{p:Addr}{v u:Value}(h:w.cell? p=some u):(w.setCell p v).cell? p=some v:=World.cell?_setCell_same _ _ _ h
def wipeW(w:World)(b o:Nat)(st tv:Int):World:=(((((((w.setCell ⟨b,o,none⟩ (iv st)).setCell ⟨b,o+1,none⟩ (iv 0)).setCell ⟨b,o+2,none⟩ (iv 0)).setCell ⟨b,o+3,none⟩ (iv 0)).setCell ⟨b,o+4,none⟩ (iv 0)).setCell ⟨b,o+5,none⟩ (iv 0)).setCell ⟨b,o+6,none⟩ (iv tv)).setCell ⟨b,o+7,none⟩ (.slice none 0 0)
theorem wipe_only(w:World)(b o:Nat)(st tv:Int):Only (fun q=>q=b) w (wipeW w b o st tv):=
 Only.setCell (S:=fun q=>q=b) (Only.setCell (S:=fun q=>q=b) (Only.setCell (S:=fun q=>q=b) (Only.setCell (S:=fun q=>q=b) (Only.setCell (S:=fun q=>q=b) (Only.setCell (S:=fun q=>q=b) (Only.setCell (S:=fun q=>q=b) (Only.setCell (S:=fun q=>q=b) (Only.refl _ w) (p:=⟨b,o,none⟩) rfl _) (p:=⟨b,o+1,none⟩) rfl _) (p:=⟨b,o+2,none⟩) rfl _) (p:=⟨b,o+3,none⟩) rfl _) (p:=⟨b,o+4,none⟩) rfl _) (p:=⟨b,o+5,none⟩) rfl _) (p:=⟨b,o+6,none⟩) rfl _) (p:=⟨b,o+7,none⟩) rfl _
theorem wipe_nf{w:World}{b:Nat}(h:Nf1 b w)(o:Nat)(st tv:Int):Nf1 b (wipeW w b o st tv):=(((((((h.set _ _).set _ _).set _ _).set _ _).set _ _).set _ _).set _ _).set _ _
theorem wipe_other(w:World)(b o:Nat)(st tv:Int)(k:Nat)(hk:k<o∨o+8≤k):(wipeW w b o st tv).cell? ⟨b,k,none⟩=w.cell? ⟨b,k,none⟩:=by
 unfold wipeW;rw[cell_other _ (.inr (by omega)),cell_other _ (.inr (by omega)),cell_other _ (.inr (by omega)),cell_other _ (.inr (by omega)),cell_other _ (.inr (by omega)),cell_other _ (.inr (by omega)),cell_other _ (.inr (by omega)),cell_other _ (.inr (by omega))]
theorem wipe_same(w:World)(b o:Nat)(st tv:Int)(c:Cl)(v:Value)(h:S7 w b o c)(h7:w.cell? ⟨b,o+7,none⟩=some v):S7 (wipeW w b o st tv) b o ⟨st,0,0,0,0,0,tv,[]⟩∧(wipeW w b o st tv).cell? ⟨b,o+7,none⟩=some (.slice none 0 0):=by
 obtain⟨a0,a1,a2,a3,a4,a5,a6⟩:=h;unfold wipeW;refine⟨⟨?_,?_,?_,?_,?_,?_,?_⟩,?_⟩
 ·iterate 7 rw[cell_other _ (.inr (by omega))]
  exact World.cell?_setCell_same _ _ _ a0
 ·iterate 6 rw[cell_other _ (.inr (by omega))]
  exact World.cell?_setCell_same _ _ _ ((cell_other _ (.inr (by omega))).trans a1)
 ·iterate 5 rw[cell_other _ (.inr (by omega))]
  refine cs_same (u:=iv c.weak) ?_
  iterate 2 rw[cell_other _ (.inr (by omega))]
  exact a2
 ·iterate 4 rw[cell_other _ (.inr (by omega))]
  refine cs_same (u:=iv c.last) ?_
  iterate 3 rw[cell_other _ (.inr (by omega))]
  exact a3
 ·iterate 3 rw[cell_other _ (.inr (by omega))]
  refine cs_same (u:=iv c.born) ?_
  iterate 4 rw[cell_other _ (.inr (by omega))]
  exact a4
 ·iterate 2 rw[cell_other _ (.inr (by omega))]
  refine cs_same (u:=iv c.color) ?_
  iterate 5 rw[cell_other _ (.inr (by omega))]
  exact a5
 ·rw[cell_other _ (.inr (by omega))];refine cs_same (u:=iv c.to) ?_
  iterate 6 rw[cell_other _ (.inr (by omega))]
  exact a6
 ·refine cs_same (u:=v) ?_
  iterate 7 rw[cell_other _ (.inr (by omega))]
  exact h7
theorem limits_7(x:Hp)(b:Nat)(w:World){ar:Option Addr}{kr:Nat}{ac:Option Addr}{kc:Nat}{ag:Option Addr}{kg:Nat}(h:HAt w b x ar kr ac kc ag kg)(q0:withinB x.room 1 4000=true)(q1:((x.regs.length:Int) == 16)=true)(q2:decide ((x.cells.length:Int)≤2*x.room)=true)(q3:decide ((x.gray.length:Int)≤(x.cells.length:Int))=true)(q4:withinB x.born 0 1000000000=true)(q5:withinB x.rounds 0 1000000000=true)(q6:withinB x.forced 0 1000000000=true)(q7:withinB x.per 0 64=false):
  Calls Tryz.prog 106 #[.pointer (some ⟨b,0,none⟩)] w fun e w'=>e=.returned (.bool false)∧Ext w w':=by
 obtain⟨c0,c1,c2,c3,c4,c5,c6,c7,c8,c9,c10,c11,c12,lr,lc,lg,R,C,G⟩:=h;clear R C G;have p0:=withinB_true q0;have p1:(0:Int)≤x.room:=by omega
 have q2b:(x.cells.length:Int)≤2*x.room:=of_decide_eq_true q2;clear q2;have q3b:x.gray.length≤x.cells.length:=by have:=of_decide_eq_true q3;omega
 clear q3;have q1b:(x.regs.length:Int)=16:=by simpa using q1
 clear q1;go_enter Tryz.func106,Tryz.ntmps106;go_wp2_with fail;simp only [List.append];refine wp_region_quiet_lit (by kernel_rfl) lim_lex ?_
 repeat (go_big_quiet_step ((go_at_call 78;first | (refine Calls.quiet_of_same (within_is _ _ _ true ?_ _);assumption) | (refine Calls.quiet_of_same (within_is _ _ _ false ?_ _);assumption))))
 refine wpQuiet_nil ?_;intro _ hw';obtain⟨nq,hw''⟩:=hw';subst hw'';go_wp2_with fail;go_ret;exact⟨rfl,Ext.drewN (Ext.refl w) _⟩
theorem limits_6(x:Hp)(b:Nat)(w:World){ar:Option Addr}{kr:Nat}{ac:Option Addr}{kc:Nat}{ag:Option Addr}{kg:Nat}(h:HAt w b x ar kr ac kc ag kg)(q0:withinB x.room 1 4000=true)(q1:((x.regs.length:Int) == 16)=true)(q2:decide ((x.cells.length:Int)≤2*x.room)=true)(q3:decide ((x.gray.length:Int)≤(x.cells.length:Int))=true)(q4:withinB x.born 0 1000000000=true)(q5:withinB x.rounds 0 1000000000=true)(q6:withinB x.forced 0 1000000000=false):
  Calls Tryz.prog 106 #[.pointer (some ⟨b,0,none⟩)] w fun e w'=>e=.returned (.bool false)∧Ext w w':=by
 obtain⟨c0,c1,c2,c3,c4,c5,c6,c7,c8,c9,c10,c11,c12,lr,lc,lg,R,C,G⟩:=h;clear R C G;have p0:=withinB_true q0;have p1:(0:Int)≤x.room:=by omega
 have q2b:(x.cells.length:Int)≤2*x.room:=of_decide_eq_true q2;clear q2;have q3b:x.gray.length≤x.cells.length:=by have:=of_decide_eq_true q3;omega
 clear q3;have q1b:(x.regs.length:Int)=16:=by simpa using q1
 clear q1;go_enter Tryz.func106,Tryz.ntmps106;go_wp2_with fail;simp only [List.append];refine wp_region_quiet_lit (by kernel_rfl) lim_lex ?_
 repeat (go_big_quiet_step ((go_at_call 78;first | (refine Calls.quiet_of_same (within_is _ _ _ true ?_ _);assumption) | (refine Calls.quiet_of_same (within_is _ _ _ false ?_ _);assumption))))
 refine wpQuiet_nil ?_;intro _ hw';obtain⟨nq,hw''⟩:=hw';subst hw'';go_wp2_with fail;go_ret;exact⟨rfl,Ext.drewN (Ext.refl w) _⟩
theorem limits_5(x:Hp)(b:Nat)(w:World){ar:Option Addr}{kr:Nat}{ac:Option Addr}{kc:Nat}{ag:Option Addr}{kg:Nat}(h:HAt w b x ar kr ac kc ag kg)(q0:withinB x.room 1 4000=true)(q1:((x.regs.length:Int) == 16)=true)(q2:decide ((x.cells.length:Int)≤2*x.room)=true)(q3:decide ((x.gray.length:Int)≤(x.cells.length:Int))=true)(q4:withinB x.born 0 1000000000=true)(q5:withinB x.rounds 0 1000000000=false):
  Calls Tryz.prog 106 #[.pointer (some ⟨b,0,none⟩)] w fun e w'=>e=.returned (.bool false)∧Ext w w':=by
 obtain⟨c0,c1,c2,c3,c4,c5,c6,c7,c8,c9,c10,c11,c12,lr,lc,lg,R,C,G⟩:=h;clear R C G;have p0:=withinB_true q0;have p1:(0:Int)≤x.room:=by omega
 have q2b:(x.cells.length:Int)≤2*x.room:=of_decide_eq_true q2;clear q2;have q3b:x.gray.length≤x.cells.length:=by have:=of_decide_eq_true q3;omega
 clear q3;have q1b:(x.regs.length:Int)=16:=by simpa using q1
 clear q1;go_enter Tryz.func106,Tryz.ntmps106;go_wp2_with fail;simp only [List.append];refine wp_region_quiet_lit (by kernel_rfl) lim_lex ?_
 repeat (go_big_quiet_step ((go_at_call 78;first | (refine Calls.quiet_of_same (within_is _ _ _ true ?_ _);assumption) | (refine Calls.quiet_of_same (within_is _ _ _ false ?_ _);assumption))))
 refine wpQuiet_nil ?_;intro _ hw';obtain⟨nq,hw''⟩:=hw';subst hw'';go_wp2_with fail;go_ret;exact⟨rfl,Ext.drewN (Ext.refl w) _⟩
theorem cellSet_und:∃et,Tryz.prog.underlying 110=some (.map 126 et)∧∀w,(zeroValue et).run Tryz.prog w=.ok (.agg #[]) w:=⟨_,Tryz.underlying110,fun _=>by kernel_rfl⟩
theorem node_und:Tryz.prog.underlying 126=some (.pointer 124):=Tryz.underlying126
theorem infoNodeP:(Tryz.prog.info? 126).map (fun i=>(i.zero,i.size,i.bytes))=some (some (.pointer none),1,8):=by kernel_rfl
theorem has_any(r bn p:Nat)(Q:List Nat)(w:World)(h:MapAt w r bn Q):
  Calls Tryz.prog 118 #[.map (some r),ptr bn p] w fun e w'=>e=.returned (.bool (decide (p∈Q)))∧Ext w w':=by
 obtain⟨et,hu,hz⟩:=cellSet_und;obtain⟨i0,hi,_,hz1,_⟩:=info_parts infoNodes;have hlk:=h.lookup hu node_und hi (by rw[hz1];omega) hz p;clear hu hz hi hz1 h;obtain⟨ans,ha⟩:∃a,decide (p∈Q)=a:=⟨_,rfl⟩;rw[ha] at hlk ⊢;clear ha;go_enter Tryz.func118,Tryz.ntmps118;go_wp2_with fail;go_ret;exact⟨rfl,(Ext.refl w).alloc _⟩
structure WkAt(w:World)(base bw bv r1 bn on n:Nat)(v:Value)(Mt St:List Nat):Prop where
 c0:w.cell? ⟨bw,0,none⟩=some (.pointer (some ⟨bv,0,none⟩))
 c1:w.cell? ⟨bw,1,none⟩=some (.map (some r1))
 c2:w.cell? ⟨bw,2,none⟩=some v
 f2:w.frozen? ⟨bw,2,none⟩=false
 m:MapAt w r1 bn (Mt.map (fun i=>on+i*2))
 s:w.ownsRow base 126 1 v St.length (St.map (fun i=>ptr bn (on+i*2)))
 a1:v.ownBlock≠some bw
 a2:v.ownBlock≠some r1
 a3:bw≠r1
 b1:base≤bw
 b2:base≤r1
 sub:∀i,i∈St→i∈Mt
 nd:Mt.Nodup
 nds:St.Nodup
 rg:∀i,i∈Mt→i<n
structure KFr(bw r1:Nat)(v v':Value)(w w':World):Prop where
 os:w'.os=w.os
 tape:w'.tape=w.tape
 output:w'.output=w.output
 size:w.heap.size≤w'.heap.size
 block:∀k:Nat,k<w.heap.size→k≠bw→k≠r1→v.ownBlock≠some k→w'.heap[k]?=w.heap[k]?
 own:v'.ownBlock=v.ownBlock∨∃g,v'.ownBlock=some g∧w.heap.size≤g
 keep:∀o u,o≠2→w.cell? ⟨bw,o,none⟩=some u→w'.cell? ⟨bw,o,none⟩=some u
theorem KFr.of_ext{bw r1:Nat}{v:Value}{w w':World}(e:Ext w w'):KFr bw r1 v v w w':=⟨e.os,e.tape,e.output,e.size,fun k hk _ _ _=>e.block k hk,.inl rfl,fun _ _ _ h=>e.keep h⟩
theorem KFr.trans{bw r1:Nat}{v v1 v2:Value}{w w1 w2:World}(h:KFr bw r1 v v1 w w1)(k:KFr bw r1 v1 v2 w1 w2):KFr bw r1 v v2 w w2:=
 ⟨k.os.trans h.os,k.tape.trans h.tape,k.output.trans h.output,Nat.le_trans h.size k.size,
  fun i hi h1 h2 hv=>(k.block i (Nat.lt_of_lt_of_le hi h.size) h1 h2 (fun e=>by
   rcases h.own with q | ⟨g,q,hg⟩
   ·rw[q] at e;exact hv e
   ·rw[q] at e;cases e;omega)).trans (h.block i hi h1 h2 hv),by
   rcases k.own with q | ⟨g,q,hg⟩
   ·rcases h.own with q2 | ⟨g,q2,hg⟩
    ·exact .inl (q.trans q2)
    ·exact .inr ⟨g,q.trans q2,hg⟩
   ·exact .inr ⟨g,q,Nat.le_trans h.size hg⟩,fun o u ho hc=>k.keep o u ho (h.keep o u ho hc)⟩
theorem WkAt.rlt{w:World}{base bw bv r1 bn on n:Nat}{v:Value}{Mt St:List Nat}(h:WkAt w base bw bv r1 bn on n v Mt St):bw<w.heap.size∧r1<w.heap.size:=by
 refine⟨cell_lt h.c0,?_⟩;obtain⟨es,c,h1,_⟩:=h.m.m;rcases Nat.lt_or_ge r1 w.heap.size with q | q
 ·exact q
 ·rw[Array.getElem?_eq_none q] at h1;cases h1
theorem WkAt.ext{w w':World}{base bw bv r1 bn on n:Nat}{v:Value}{Mt St:List Nat}(h:WkAt w base bw bv r1 bn on n v Mt St)(e:Ext w w'):WkAt w' base bw bv r1 bn on n v Mt St:=
 ⟨e.keep h.c0,e.keep h.c1,e.keep h.c2,by rw[e.frozen (p:=⟨bw,2,none⟩) h.rlt.1];exact h.f2,h.m.block (e.block r1 h.rlt.2),ownsRow_of_block h.s (fun k hk=>e.block k (h.s.lt k hk).2),h.a1,h.a2,h.a3,h.b1,h.b2,h.sub,h.nd,h.nds,h.rg⟩
theorem WkAt.kext{a w w':World}{bw bv r1 bn on n:Nat}{v v':Value}{Mt St:List Nat}(h:WkAt w a.heap.size bw bv r1 bn on n v Mt St)(q:KFr bw r1 v v' w w')(e:Ext a w):Ext a w':=
 Below.trans e ⟨q.os,q.tape,q.output,q.size,fun k hk=>q.block k (Nat.lt_of_lt_of_le hk e.size) (by have:=h.b1;omega) (by have:=h.b2;omega) (fun f=>by have:=(h.s.lt k f).1;omega)⟩
theorem WkAt.len{w:World}{base bw bv r1 bn on n:Nat}{v:Value}{Mt St:List Nat}(h:WkAt w base bw bv r1 bn on n v Mt St):Mt.length≤n∧St.length≤n:=by
 have key:∀L:List Nat,L.Nodup→(∀i,i∈L→i<n)→L.length≤n:=fun L hn hr=>by
  have:=List.Nodup.length_le_of_subset hn (fun z hz=>List.mem_range.2 (hr z hz))
  simpa using this
 exact⟨key _ h.nd h.rg,key _ h.nds (fun i hi=>h.rg i (h.sub i hi))⟩
theorem mem_off{on i:Nat}{Mt:List Nat}:on+i*2∈Mt.map (fun i=>on+i*2)↔i∈Mt:=by
 simp only [List.mem_map];constructor
 ·rintro⟨j,hj,e⟩;have:j=i:=by omega
  rw[←this];exact hj
 ·intro h;exact⟨i,h,rfl⟩
theorem WkAt.add{w w1 w2:World}{base bw bv r1 bn on n g cap i:Nat}{v:Value}{Mt St:List Nat}{o:Obj}(h:WkAt w base bw bv r1 bn on n v Mt St)(hi:i<n)(hm:¬i∈Mt)
  (hm1:MapAt w1 r1 bn (Mt.map (fun i=>on+i*2)++[on+i*2])) (hos:w1.os=w.os) (ht:w1.tape=w.tape) (hou:w1.output=w.output) (hsz:w1.heap.size=w.heap.size) (hbl:∀k:Nat,k≠r1→w1.heap[k]?=w.heap[k]?)
  (hown:w2.ownsRow base 126 1 (.slice (some ⟨g,0,none⟩) (St.length+1) cap) (St.length+1) (St.map (fun i=>ptr bn (on+i*2))++[ptr bn (on+i*2)])) (hg:(w1.alloc o).grownBy w2 v.ownBlock) (hat:v.ownBlock=some g∨g=w1.heap.size+1) :
  WkAt (w2.setCell ⟨bw,2,none⟩ (.slice (some ⟨g,0,none⟩) (St.length+1) cap)) base bw bv r1 bn on n (.slice (some ⟨g,0,none⟩) (St.length+1) cap) (Mt++[i]) (St++[i])∧
  KFr bw r1 v (.slice (some ⟨g,0,none⟩) (St.length+1) cap) w (w2.setCell ⟨bw,2,none⟩ (.slice (some ⟨g,0,none⟩) (St.length+1) cap))∧w2.cell? ⟨bw,2,none⟩=some v∧w2.frozen? ⟨bw,2,none⟩=false:=by
 have hr:=h.rlt;have hs1:w1.heap.size+1≤w2.heap.size:=by have:=hg.size;simpa using this
 have blk:∀k:Nat,k<w1.heap.size→v.ownBlock≠some k→w2.heap[k]?=w1.heap[k]?:=fun k hk hv=>(hg.block k (by simp;omega) (fun e=>hv e.symm)).trans (Below.heap_alloc w1 o k hk)
 have hbw:w2.heap[bw]?=w.heap[bw]?:=(blk bw (by omega) h.a1).trans (hbl bw h.a3)
 have hgb:g≠bw∧g≠r1:=by
  rcases hat with e | e
  ·exact⟨fun q=>h.a1 (q ▸ e),fun q=>h.a2 (q ▸ e)⟩
  ·omega
 have cc:∀o' v',w.cell? ⟨bw,o',none⟩=some v'→w2.cell? ⟨bw,o',none⟩=some v':=fun o' v' hc=>(World.cell?_of_block (a:=⟨bw,o',none⟩) hbw).trans hc
 have hc2:=cc 2 _ h.c2;have hf2:w2.frozen? ⟨bw,2,none⟩=false:=(World.frozen?_of_block (a:=⟨bw,2,none⟩) hbw).trans h.f2;refine⟨⟨?_,?_,World.cell?_setCell_same _ _ _ hc2,by rw[World.frozen?_setCell];exact hf2,?_,?_,fun e=>hgb.1 (by simpa [Value.ownBlock] using e),fun e=>hgb.2 (by simpa [Value.ownBlock] using e),h.a3,h.b1,h.b2,?_,?_,?_,?_⟩,⟨?_,?_,?_,?_,fun k hk h1 h2 h3=>?_,?_,fun o u ho hc=>(cell_other _ (.inr (fun e=>ho e.symm))).trans (cc o u hc)⟩,hc2,hf2⟩
 ·rw[cell_other _ (.inr (by omega))];exact cc 0 _ h.c0
 ·rw[cell_other _ (.inr (by omega))];exact cc 1 _ h.c1
 ·refine MapAt.block (w:=w1) (by simpa using hm1) ?_;rw[Below.heap_setCell _ _ _ _ (show r1≠bw from fun e=>h.a3 e.symm)];exact blk r1 (by omega) h.a2
 ·refine ownsRow_of_block (by simpa using hown) (fun k hk=>Below.heap_setCell _ _ _ _ ?_);simp [Value.ownBlock] at hk;show k≠bw;omega
 ·intro j hj;rcases List.mem_append.1 hj with q | q
  ·exact List.mem_append_left _ (h.sub j q)
  ·exact List.mem_append_right _ q
 ·rw[List.nodup_append];exact⟨h.nd,by simp,fun a ha b hb=>by simp at hb;rw[hb];intro e;exact hm (e ▸ ha)⟩
 ·rw[List.nodup_append];exact⟨h.nds,by simp,fun a ha b hb=>by simp at hb;rw[hb];intro e;exact hm (e ▸ h.sub a ha)⟩
 ·intro j hj;rcases List.mem_append.1 hj with q | q
  ·exact h.rg j q
  ·simp at q;omega
 ·exact(hg.os.trans rfl).trans hos
 ·exact(hg.tape.trans rfl).trans ht
 ·exact(hg.output.trans rfl).trans hou
 ·have:(w2.setCell ⟨bw,2,none⟩ (.slice (some ⟨g,0,none⟩) (St.length+1) cap)).heap.size=w2.heap.size:=by simp [World.setCell]
  omega
 ·rw[Below.heap_setCell _ _ _ _ (show k≠bw from h1),blk k (by omega) h3];exact hbl k h2
 ·rcases hat with e | e
  ·exact .inl e.symm
  ·exact .inr ⟨g,rfl,by omega⟩
theorem meet_nil(bw:Nat)(w:World):
  Calls Tryz.prog 121 #[.pointer (some ⟨bw,0,none⟩),.pointer none] w fun e w'=>e=.returned (.tuple #[])∧w'=w:=by
 go_enter Tryz.func121,Tryz.ntmps121;go_wp2_with fail
 try simp only [Exit.inBlock,Exit.then]
 refine bodyPost_ret (results_none rfl _ _ _) rfl ?_;exact⟨rfl,rfl⟩
theorem meet_any(base bw bv r1 bn on n i:Nat)(v:Value)(Mt St:List Nat)(w:World)(h:WkAt w base bw bv r1 bn on n v Mt St)(hi:i<n)(hb:base≤w.heap.size)(hn8:n≤8000):
  Calls Tryz.prog 121 #[.pointer (some ⟨bw,0,none⟩),ptr bn (on+i*2)] w fun e w'=>e=.returned (.tuple #[])∧∃v' Mt' St',WkAt w' base bw bv r1 bn on n v' Mt' St'∧Hid ((i∈Mt∧Mt'=Mt∧St'=St)∨(¬i∈Mt∧Mt'=Mt++[i]∧St'=St++[i]))∧KFr bw r1 v v' w w':=by
 obtain⟨et,hu,hz⟩:=cellSet_und;obtain⟨i1,hi1,_,hz1,_⟩:=info_parts infoNodes;obtain⟨i0,hi0,hy0,hy1,hy2⟩:=info_parts infoNodeP;have hlen:=h.len.2;have c1:=h.c1;have c2:=h.c2;have HW:=hide h;have HU:=hide hu;have HN:=hide hi1;have HZ:=hide hz1;clear h hu hz hi1 hz1;go_enter Tryz.func121,Tryz.ntmps121;go_wp2_with fail;refine(has_any r1 bn (on+i*2) _ _ (unhide HW).m).mono ?_;rintro e w1 ⟨rfl,hq⟩;have W1:=hide ((unhide HW).ext hq);have d1:=hq.keep c1;have d2:=hq.keep c2;clear c1 c2;by_cases hm:i∈Mt
 ·have E:decide (on+i*2∈Mt.map (fun i=>on+i*2))=true:=decide_eq_true (mem_off.2 hm);rw[E];clear E;have K:=hide (KFr.of_ext (bw:=bw) (r1:=r1) (v:=v) hq);clear hq;go_wp2_with fail
  try simp only [Exit.inBlock,Exit.then]
  refine bodyPost_ret (results_none rfl _ _ _) rfl ?_;exact⟨rfl,v,Mt,St,unhide W1,.inl ⟨hm,rfl,rfl⟩,unhide K⟩
 ·have E:decide (on+i*2∈Mt.map (fun i=>on+i*2))=false:=decide_eq_false (fun f=>hm (mem_off.1 f));rw[E];clear E;obtain⟨wU,hUp,m1,hos,ht,hou,hsz,hbl⟩:=MapAt.update (unhide W1).m (unhide HU) node_und (unhide HN) (by rw[unhide HZ];omega) (on+i*2) (fun f=>hm (mem_off.1 f));have K:=hide (KFr.of_ext (bw:=bw) (r1:=r1) (v:=v) hq);have dU:wU.cell? ⟨bw,2,none⟩=some v:=(World.cell?_of_block (w:=w1) (a:=⟨bw,2,none⟩) (hbl bw (unhide W1).a3)).trans d2;have OW:=hide (show wU.ownsRow base 126 1 v St.length (St.map (fun i=>ptr bn (on+i*2))) from ownsRow_of_block (unhide W1).s (fun k hk=>hbl k (fun e=>(unhide W1).a2 (e ▸ hk))));have AD:=hide (And.intro m1 (And.intro hos (And.intro ht (And.intro hou (And.intro hsz hbl)))));have hbU:base≤wU.heap.size:=by have:=hq.size;omega
  clear m1 hos ht hou hsz hbl hq;go_wp2_with (at_builtin;refine wpList_append_lies _ rfl _ _ 130 rfl base 126 i0 (.pointer none) 1 8 Tryz.underlying130 hi0 hy0 hy1 hy2 rfl (by decide) v St.length (St.map (fun i=>ptr bn (on+i*2))) rfl ((unhide OW).alloc _) _ 1 1 [ptr bn (on+i*2)] rfl rfl ?c1 ?c2 (by decide) ?c3 ?c4 ?c5 _ rfl ?_)
  case c1=>
   intro j u hj
   match j,hj with
   | 0,hj=>simp at hj;subst hj;simp [Addr.add]
  case c2=>intro u hu;simp at hu;subst hu;rfl
  case c3=>unfold maxLen;omega
  case c4=>omega
  case c5=>simp;omega
  intro g cap w2 hown hgrow hat hglt;obtain⟨q1,q2,q3,q4⟩:=WkAt.add (unhide W1) hi hm (unhide AD).1 (unhide AD).2.1 (unhide AD).2.2.1 (unhide AD).2.2.2.1 (unhide AD).2.2.2.2.1 (unhide AD).2.2.2.2.2 hown hgrow (by simpa using hat);have FIN:=hide (And.intro q1 ((unhide K).trans q2));clear q1 q2 hown hgrow hat dU;go_wp2_with fail
  go_end0
  exact⟨rfl,_,Mt++[i],St++[i],(unhide FIN).1,.inr ⟨hm,rfl,rfl⟩,(unhide FIN).2⟩
theorem next_none(base bw bv r1 bn on n:Nat)(v:Value)(Mt:List Nat)(w:World)(h:WkAt w base bw bv r1 bn on n v Mt []):
  Calls Tryz.prog 122 #[.pointer (some ⟨bw,0,none⟩)] w fun e w'=>e=.returned (.pointer none)∧w'=w:=by
 obtain⟨ad,cap,rfl⟩:∃ad cap,v=.slice ad 0 cap:=by
  rcases h.s.2 with⟨h1,_⟩ | ⟨g,cap,cur,h1,_⟩
  ·exact⟨none,0,h1⟩
  ·exact⟨_,_,h1⟩
 have c2:=h.c2;clear h;go_enter Tryz.func122,Tryz.ntmps122;go_wp2_with fail;go_ret;exact⟨rfl,rfl⟩
theorem WkAt.pop{w:World}{base bw bv r1 bn on n g m cap:Nat}{Mt St:List Nat}{j:Nat}(h:WkAt w base bw bv r1 bn on n (.slice (some ⟨g,0,none⟩) (m+1) cap) Mt (St++[j]))(hm:St.length=m):
  WkAt (w.setCell ⟨bw,2,none⟩ (.slice (some ⟨g,0,none⟩) m cap)) base bw bv r1 bn on n (.slice (some ⟨g,0,none⟩) m cap) Mt St∧KFr bw r1 (.slice (some ⟨g,0,none⟩) (m+1) cap) (.slice (some ⟨g,0,none⟩) m cap) w (w.setCell ⟨bw,2,none⟩ (.slice (some ⟨g,0,none⟩) m cap)):=by
 have hgb:g≠bw:=fun e=>h.a1 (by rw[e];rfl)
 have hs:=h.s;simp only [List.length_append,List.length_singleton,List.map_append,List.map_cons,List.map_nil,hm] at hs;have how:=ownsRow_pop (by simp [hm]) hs;refine⟨⟨?_,?_,World.cell?_setCell_same _ _ _ h.c2,by rw[World.frozen?_setCell];exact h.f2,?_,?_,h.a1,h.a2,h.a3,h.b1,h.b2,fun i hi=>h.sub i (List.mem_append_left _ hi),h.nd,?_,h.rg⟩,⟨rfl,rfl,rfl,by simp [World.setCell],fun k _ h1 _ _=>Below.heap_setCell _ _ _ _ (show k≠bw from h1),.inl rfl,fun o u ho hc=>(cell_other _ (.inr (fun e=>ho e.symm))).trans hc⟩⟩
 ·rw[cell_other _ (.inr (by omega))];exact h.c0
 ·rw[cell_other _ (.inr (by omega))];exact h.c1
 ·exact h.m.block (Below.heap_setCell _ _ _ _ (show r1≠bw from fun e=>h.a3 e.symm))
 ·rw[hm];refine ownsRow_of_block how (fun k hk=>Below.heap_setCell _ _ _ _ ?_);simp [Value.ownBlock] at hk;show k≠bw;omega
 ·have:=h.nds;rw[List.nodup_append] at this;exact this.1
theorem next_some(base bw bv r1 bn on n j:Nat)(v:Value)(Mt St:List Nat)(w:World)(h:WkAt w base bw bv r1 bn on n v Mt (St++[j]))(hn8:n≤8000):
  Calls Tryz.prog 122 #[.pointer (some ⟨bw,0,none⟩)] w fun e w'=>e=.returned (ptr bn (on+j*2))∧∃v',WkAt w' base bw bv r1 bn on n v' Mt St∧KFr bw r1 v v' w w':=by
 have hl:=h.len.2;obtain⟨m,hm⟩:∃m,St.length=m:=⟨_,rfl⟩
 obtain⟨g,cap,hv,hc⟩:∃g cap,v=.slice (some ⟨g,0,none⟩) (m+1) cap∧m+1≤cap:=by
  rcases h.s.2 with⟨_,h1⟩ | ⟨g,cap,cur,h1,_,_,hcap,_⟩
  ·simp at h1
  ·simp only [List.length_append,List.length_singleton,hm] at h1 hcap;exact⟨g,cap,h1,hcap⟩
 subst hv;have hs:=h.s;simp only [List.length_append,List.length_singleton,List.map_append,List.map_cons,List.map_nil,hm] at hs hl
 have cj:w.cell? ⟨g,m,none⟩=some (ptr bn (on+j*2)):=by
  have:=World.ownsRow.cellAt hs m (by omega);rw[this,List.getElem?_append_right (by simp [hm])];simp [hm]
 have c2:=h.c2;have f2:=h.f2;have FIN:=hide (h.pop hm);have i0:(0:Int)≤(m:Int):=by omega
 have i1:(m:Int)<(m:Int)+1:=by omega
 have i2:(m:Int)≤(cap:Int):=by omega
 clear h hs hm;go_enter Tryz.func122,Tryz.ntmps122;go_wp2_with fail;go_ret;exact⟨rfl,_,(unhide FIN).1,(unhide FIN).2⟩
theorem GAt.drop[Inhabited ProtD]{B:Nat}{w:World}{g:Nat}{x:Hp}{ar:Option Addr}{kr:Nat}{ac:Option Addr}{kc:Nat}{vg:Value}{br bc:Nat}{pb:Nat→Nat}{pa:Nat→Option Addr}{pk:Nat→Nat}{role:Nat→Nat}(h:GAt B w g x ar kr ac kc vg br bc pb pa pk role)(i:Nat)(hi:i+1=x.cells.length):
  GOk B (w.setCell ⟨g,4,none⟩ (.slice ac i kc)) g { x with cells:=x.cells.take i }:=by
 have far:∀q,q<w.heap.size→role q≠0→(w.setCell ⟨g,4,none⟩ (.slice ac i kc)).heap[q]?=w.heap[q]?:=fun q hq hn=>Below.heap_setCell _ _ _ _ (fun e=>hn (by rw[e];exact h.sp.g))
 have rw2:=h.rw.same (w':=w.setCell ⟨g,4,none⟩ (.slice ac i kc)) (by simp [World.setCell]) (fun hl=>far br (h.rw.nr hl).1.1 (by rw[h.sp.r hl];omega)) (fun hl=>far bc (h.rw.nc hl).1.1 (by rw[h.sp.c hl];omega)) (fun q hq hl=>far (pb q) (h.rw.pl q hq hl).2.1.1 (by rw[h.sp.p q hq hl];omega));have hl:({ x with cells:=x.cells.take i }:Hp).cells.length=i:=by simp;omega
 have hn:0<x.cells.length:=by omega
 have hc:∀q,q<i→({ x with cells:=x.cells.take i }:Hp).c q=x.c q:=fun q hq=>by
  simp only [Hp.c,List.getD_eq_getElem?_getD,List.getElem?_take_of_lt hq]
 refine⟨ar,kr,ac,kc,vg,br,bc,pb,pa,pk,role,?_,h.nf.set _ _,h.lo,h.ha,fun _=>h.hc hn,⟨rw2.r,fun q hq=>?_,fun q hq=>?_,fun q hq k hk=>?_,fun q hq hlq=>?_,rw2.nr,fun _=>rw2.nc hn,fun _=>rw2.d hn,fun q q' hq hq' hne h1 h2=>?_,fun q hq=>?_⟩,h.gr.block (fun q hq=>far q (h.gr.lt q hq).2 (by rw[h.sp.y q hq];omega)),⟨h.sp.g,h.sp.r,fun _=>h.sp.c hn,h.sp.y,fun q hq hlq=>?_⟩,by rw[hl];have:=h.kl;omega,h.pr.of (fun q hq h1=>far q hq (by rw[h1];omega)) (fun _ _ h=>h),fun hk=>(h.cc hk).block rfl (far bc (h.cc hk).nf.1 (by rw[(h.cc hk).ro];omega)) (by simp [World.setCell])⟩
 ·rw[hl];exact h.bx.set4 _
 ·rw[hl] at hq;rw[hc q hq];exact rw2.s q (by omega)
 ·rw[hl] at hq;rw[hc q hq];exact rw2.p7 q (by omega)
 ·rw[hl] at hq;rw[hc q hq] at hk ⊢;exact rw2.p q (by omega) k hk
 ·rw[hl] at hq;exact rw2.pl q (by omega) hlq
 ·rw[hl] at hq hq';exact rw2.dp q q' (by omega) (by omega) hne h1 h2
 ·rw[hl] at hq;rw[hc q hq];exact rw2.kp q (by omega)
 ·rw[hl] at hq;exact h.sp.p q (by omega) hlq
theorem GAt.setr[Inhabited ProtD]{B:Nat}{w w':World}{g:Nat}{x:Hp}{ar:Option Addr}{kr:Nat}{ac:Option Addr}{kc:Nat}{vg:Value}{br bc:Nat}{pb:Nat→Nat}{pa:Nat→Option Addr}{pk:Nat→Nat}{role:Nat→Nat}(h:GAt B w g x ar kr ac kc vg br bc pb pa pk role)(j:Nat)(hj:j<x.regs.length)(y:Wd)(o:Only (fun q=>q=br) w w')(nf:Nf1 br w')(hy:WdAt w' br (j*3) y)(ho:∀m,(m<j*3∨j*3+3≤m)→w'.cell? ⟨br,m,none⟩=w.cell? ⟨br,m,none⟩):
  GAt B w' g { x with regs:=x.regs.set j y } ar kr ac kc vg br bc pb pa pk role:=by
 have hr:0<x.regs.length:=by omega
 have far:∀q,q<w.heap.size→role q≠2→w'.heap[q]?=w.heap[q]?:=fun q hq hn=>o.block q hq (fun e=>hn (by rw[e];exact h.sp.r hr))
 have fg:=far g h.nf.1 (by rw[h.sp.g];omega);have hl:({ x with regs:=x.regs.set j y }:Hp).regs.length=x.regs.length:=by simp
 have pf:∀q,q<x.cells.length→0<pk q→w'.heap[pb q]?=w.heap[pb q]?:=fun q hq hl=>far (pb q) (h.rw.pl q hq hl).2.1.1 (by rw[h.sp.p q hq hl];omega)
 have fc:0<x.cells.length→w'.heap[bc]?=w.heap[bc]?:=fun hn=>far bc (h.rw.nc hn).1.1 (by rw[h.sp.c hn];omega)
 refine⟨?_,nf1_block h.nf fg o.size,h.lo,fun _=>h.ha hr,h.hc,⟨fun m hm=>?_,fun q hq=>?_,fun q hq=>?_,fun q hq k hk=>?_,fun q hq hlq=>?_,fun _=>⟨nf,(h.rw.nr hr).2⟩,fun hn=>⟨nf1_block (h.rw.nc hn).1 (fc hn) o.size,(h.rw.nc hn).2⟩,h.rw.d,h.rw.dp,h.rw.kp⟩,h.gr.block (fun q hq=>far q (h.gr.lt q hq).2 (by rw[h.sp.y q hq];omega)),⟨h.sp.g,fun _=>h.sp.r hr,h.sp.c,h.sp.y,h.sp.p⟩,h.kl,h.pr.of (fun q hq h1=>far q hq (by rw[h1];omega)) (fun _ _ h=>h),fun hk=>(h.cc hk).block rfl (far bc (h.cc hk).nf.1 (by rw[(h.cc hk).ro];omega)) o.size⟩
 ·rw[hl];exact h.bx.block fg
 ·have hm2:m<x.regs.length:=by rw[hl] at hm;exact hm
  by_cases e:m=j
  ·subst e;have:({ x with regs:=x.regs.set m y }:Hp).regs[m]=y:=by simp
   rw[this];exact hy
  ·have hne:j≠m:=fun e2=>e e2.symm
   have:({ x with regs:=x.regs.set j y }:Hp).regs[m]=x.regs[m]:=by simp [hne]
   rw[this];exact(h.rw.r m hm2).of fun l hl=>ho _ (by omega)
 ·exact(h.rw.s q hq).of fun m _=>World.cell?_of_block (a:=⟨bc,_,none⟩) (fc (by have:q<x.cells.length:=hq;omega))
 ·rw[World.cell?_of_block (a:=⟨bc,_,none⟩) (fc (by have:q<x.cells.length:=hq;omega))];exact h.rw.p7 q hq
 ·exact(h.rw.p q hq k hk).of fun m _=>World.cell?_of_block (a:=⟨pb q,_,none⟩) (pf q hq (h.rw.pw hq (by have:k<(x.c q).prs.length:=hk;omega)))
 ·obtain⟨a1,a2,a3⟩:=h.rw.pl q hq hlq;exact⟨a1,nfp_block a2 (pf q hq hlq) o.size,a3⟩
theorem GAt.move[Inhabited ProtD]{B:Nat}{w w':World}{g:Nat}{x:Hp}{ar:Option Addr}{kr:Nat}{ac:Option Addr}{kc:Nat}{vg:Value}{br bc:Nat}{pb:Nat→Nat}{pa:Nat→Option Addr}{pk:Nat→Nat}{role:Nat→Nat}(h:GAt B w g x ar kr ac kc vg br bc pb pa pk role)(t f:Nat)(htf:t≠f)(ht:t<x.cells.length)(hf:f<x.cells.length)(o:Only (fun q=>q=bc) w w')(nf:Nf1 bc w')(hs:S7 w' bc (t*8) (x.c f))(h7:w'.cell? ⟨bc,t*8+7,none⟩=some (.slice (pa f) (x.c f).prs.length (pk f)))(gs:S7 w' bc (f*8) (mvC t))(g7:w'.cell? ⟨bc,f*8+7,none⟩=some (.slice none 0 0))
  (ho:∀q,q<x.cells.length→q≠t→q≠f→∀k,k<8→w'.cell? ⟨bc,q*8+k,none⟩=w.cell? ⟨bc,q*8+k,none⟩) (hcc:∀j,x.cells.length*8≤j→w'.cell? ⟨bc,j,none⟩=w.cell? ⟨bc,j,none⟩) :
  ∃pb' pa' pk' role',GAt B w' g { x with cells:=(x.cells.set t (x.c f)).set f (mvC t) } ar kr ac kc vg br bc pb' pa' pk' role':=by
 have hc:∀q,({ x with cells:=(x.cells.set t (x.c f)).set f (mvC t) }:Hp).c q=if q=f then mvC t else if q=t then x.c f else x.c q:=fun q=>by
  have h1:=Hp.c_set { x with cells:=x.cells.set t (x.c f) } f (mvC t) (by simpa using hf) q;have h2:=Hp.c_set x t (x.c f) ht q;have e:({ x with cells:=(x.cells.set t (x.c f)).set f (mvC t) }:Hp)={ ({ x with cells:=x.cells.set t (x.c f) }:Hp) with cells:=({ x with cells:=x.cells.set t (x.c f) }:Hp).cells.set f (mvC t) }:=rfl;rw[e,h1];by_cases e1:q=f
  ·rw[if_pos e1,if_pos e1]
  ·rw[if_neg e1,if_neg e1];exact h2
 refine⟨_,_,_,_,h.turn ((x.cells.set t (x.c f)).set f (mvC t)) (by simp) (fun q=>if q=t then f else q) (fun q=>if q=f then none else if q=t then pa f else pa q) (fun q=>if q=f then 0 else if q=t then pk f else pk q) (fun b=>if 0<pk f∧b=pb f then 6+t else role b) (by omega) o nf (fun q hq=>?_) (fun q hq=>?_) (fun q hq=>?_) (fun q hq hl=>?_) (fun b hb=>?_) hcc⟩
 ·rw[hc q];by_cases e1:q=f
  ·subst e1;rw[if_pos rfl];exact gs
  ·rw[if_neg e1];by_cases e2:q=t
   ·subst e2;rw[if_pos rfl];exact hs
   ·rw[if_neg e2];exact(h.rw.s q hq).of fun j hj=>ho q hq e2 e1 j (by omega)
 ·rw[hc q];by_cases e1:q=f
  ·subst e1;simp only [if_true];exact g7
  ·simp only [if_neg e1];by_cases e2:q=t
   ·subst e2;simp only [if_true];exact h7
   ·simp only [if_neg e2];rw[ho q hq e2 e1 7 (by omega)];exact h.rw.p7 q hq
 ·rw[hc q];by_cases e1:q=f
  ·rw[if_pos e1];simp [mvC]
  ·simp only [if_neg e1];by_cases e2:q=t
   ·simp only [if_pos e2];exact h.rw.kp f hf
   ·simp only [if_neg e2];exact h.rw.kp q hq
 ·rw[hc q];by_cases e1:q=f
  ·rw[if_pos e1] at hl;omega
  ·rw[if_neg e1] at hl;simp only [if_neg e1];by_cases e2:q=t
   ·rw[if_pos e2] at hl;simp only [if_pos e2];exact⟨⟨hf,trivial⟩,trivial,trivial,by rw[if_pos ⟨hl,trivial⟩,e2]⟩
   ·rw[if_neg e2] at hl;simp only [if_neg e2];refine⟨⟨hq,trivial⟩,trivial,trivial,?_⟩;rw[if_neg (fun e=>?_)]
    ·exact h.sp.p q hq hl
    ·have r1:=h.sp.p q hq hl;have r2:=h.sp.p f hf e.1;rw[e.2] at r1;omega
 ·by_cases e:0<pk f∧b=pb f
  ·have r2:=h.sp.p f hf e.1;rw[←e.2] at r2;omega
  ·rw[if_neg e]
def HRd(w:World)(y:Hp)(ar:Option Addr)(kr:Nat)(ac:Option Addr)(kc:Nat)(ag:Option Addr)(kg:Nat):Prop:=SlW w (.slice ar y.regs.length kr) y.regs∧SlC w (.slice ac y.cells.length kc) y.cells∧SlI w (.slice ag y.gray.length kg) y.gray
theorem HRd.ext{w w':World}{y:Hp}{ar:Option Addr}{kr:Nat}{ac:Option Addr}{kc:Nat}{ag:Option Addr}{kg:Nat}(h:HRd w y ar kr ac kc ag kg)(e:Ext w w'):HRd w' y ar kr ac kc ag kg:=⟨SlW.ext e h.1,SlC.ext e h.2.1,SlI.ext e h.2.2⟩
theorem HRd.zero(w:World):HRd w Hp0 none 0 none 0 none 0:=⟨SlOf.nil,SlOf.nil,SlOf.nil⟩
theorem fstFree_at(x:Hp)(k:Nat)(hk:k<x.cells.length)(h0:∀q,q<k→(x.c q).st≠0)(h1:(x.c k).st=0):fstFree x=k:=by
 obtain⟨_,a,b⟩:=fstFree_is x;rcases Nat.lt_trichotomy (fstFree x) k with e | e | e
 ·exact absurd (b (by omega)) (h0 _ e)
 ·exact e
 ·exact absurd h1 (a k e)
def sumTo(x:Hp)(p:Nat→Bool):Nat→Nat
 | 0=>0
 | k+1=>sumTo x p k+(if p k=true then 1+(x.c k).prs.length else 0)
theorem sumTo_le{x:Hp}{p:Nat→Bool}(h:∀i,i<x.cells.length→(x.c i).prs.length≤200)(k:Nat)(hk:k≤x.cells.length):sumTo x p k≤201*k:=by
 induction k with
 | zero=>simp [sumTo]
 | succ k ih=>
  have:=h k (by omega);have:=ih (by omega);simp only [sumTo]
  split <;> omega
theorem newC_p(b k:Int)(n:Nat)(col:Int)(j:Nat):(newC b k n col).p j=Pr0:=by
 unfold Cl.p newC;simp only [List.getD_eq_getElem?_getD];by_cases h:j<n
 ·simp [h]
 ·simp [h]
theorem Snd.make{x:Hp}(h:Snd x)(k:Int)(n:Nat)(hk:0≤k∧k≤255)(hn:n≤200)(hb:x.born<1000000000)(hu:x.used+(1+n)≤x.room):Snd (makeH x k n)∧((makeH x k n).c (fstFree x)).st=1∧fstFree x<(makeH x k n).cells.length∧¬Doomed (makeH x k n) (fstFree x):=by
 obtain⟨f1,f2,f3⟩:=fstFree_is x;obtain⟨t,ht⟩:∃t,t=fstFree x:=⟨_,rfl⟩;obtain⟨c,hc⟩:∃c,c=newC (x.born+1) k n (newCol x t):=⟨_,rfl⟩;obtain⟨z,hz⟩:∃z,z=makeH x k n:=⟨_,rfl⟩;rw[←ht] at f1 f2 f3 ⊢;have zcs:z.cells=newCs x t c:=by rw[hz,hc,ht];rfl
 have zc:∀q,z.c q=if q=t then c else x.c q:=newCs_c x z t c f1 zcs
 have zl:z.cells.length=if t<x.cells.length then x.cells.length else x.cells.length+1:=by rw[zcs];exact newCs_len x t c
 have zle:x.cells.length≤z.cells.length:=by rw[zl];split <;> omega
 have zq:∀q,q<z.cells.length→q=t∨(q≠t∧q<x.cells.length):=fun q hq=>by
  rw[zl] at hq;by_cases e:q=t
  ·exact .inl e
  ·refine .inr ⟨e,?_⟩
   split at hq <;> omega
 have tl:t<z.cells.length:=by rw[zl];split <;> omega
 have zne:∀q,q≠t→z.c q=x.c q:=fun q e=>by rw[zc q,if_neg e]
 have ze:z.c t=c:=by rw[zc t,if_pos rfl]
 have free:∀q,q<x.cells.length→(x.c q).st≠0→q≠t:=fun q hq hs e=>by subst e;exact hs (f3 hq)
 have zro:z.room=x.room:=by rw[hz];rfl
 have zus:z.used=x.used+(1+n):=by rw[hz];rfl
 have zbo:z.born=x.born+1:=by rw[hz];rfl
 have zre:z.regs=x.regs:=by rw[hz];rfl
 have zph:z.phase=x.phase:=by rw[hz];rfl
 have zha:z.hand=x.hand:=by rw[hz];rfl
 have zsu:z.sub=x.sub:=by rw[hz];rfl
 have zgr:z.gray=x.gray:=by rw[hz];rfl
 have zrest:z.per=x.per∧z.start=x.start∧z.rounds=x.rounds∧z.forced=x.forced:=by rw[hz];exact⟨rfl,rfl,rfl,rfl⟩
 have cst:c.st=1:=by rw[hc];rfl
 have cbo:c.born=x.born+1:=by rw[hc];rfl
 have cto:c.to=0:=by rw[hc];rfl
 have cla:c.last=0:=by rw[hc];rfl
 have cco:c.color=newCol x t:=by rw[hc];rfl
 have cpl:c.prs.length=n:=by rw[hc];simp [newC]
 have cp:∀j,c.p j=Pr0:=fun j=>by rw[hc];exact newC_p _ _ _ _ j
 have ncd:¬Doomed z t:=fun d=>by
  have d4:=d.2.2.2;rw[ze,cco] at d4;unfold newCol at d4;have d1:=d.1;have d2:=d.2.1;rw[zph] at d1;rw[zha] at d2;rw[if_pos (.inr (.inr ⟨d1,d2⟩))] at d4;omega
 have dm:∀q,q≠t→(Doomed z q↔Doomed x q):=fun q e=>by unfold Doomed;rw[zph,zha,zne q e]
 have fm:∀y:Wd,Formed y x.cells.length→Formed y z.cells.length:=fun y f=>by unfold Formed at f ⊢;omega
 have ld:∀(y:Wd) (m:Prop),Leads x y m→Leads z y m:=fun y m l=>⟨fm y l.1,fun hk=>by
  have hf:=l.1;unfold Formed at hf;have hy:y.a.toNat<x.cells.length:=by omega
  rcases l.2 hk with o | o
  ·have e:=free _ hy (by rw[o.1];omega);rw[zne _ e];exact .inl o
  ·have e:=free _ hy (by rw[o.1];omega);rw[zne _ e];exact .inr ⟨o.1,fun d=>o.2 ((dm _ e).1 d)⟩⟩
 have nl:∀m:Prop,Leads z ⟨0,0,0⟩ m:=fun m=>⟨.inl ⟨rfl,rfl,rfl⟩,fun h=>by simp at h⟩
 have us:x.used=(units x.cells:Nat):=h.r3.1;rw[←hz];refine⟨⟨?_,?_,?_,?_,?_,?_,?_,?_⟩,by rw[ze];exact cst,tl,ncd⟩
 ·have rc:=h.r1.cells;have rr:=h.r1.room;refine⟨by rw[zro];exact rr,by rw[zre];exact h.r1.regs,?_,by rw[zgr];exact Nat.le_trans h.r1.gray zle,by rw[zbo];have:=h.r1.born;omega,by rw[zrest.2.2.1];exact h.r1.rounds,by rw[zrest.2.2.2];exact h.r1.forced,by rw[zrest.1];exact h.r1.per,by rw[zrest.2.1];exact h.r1.start,by rw[zph];exact h.r1.phase,by rw[zha];have:=h.r1.hand;omega,by rw[zsu];exact h.r1.sub⟩;rw[zro,zl];by_cases e:t<x.cells.length
  ·rw[if_pos e];exact rc
  ·rw[if_neg e];have:=h.crowd (fun i hi=>f2 i (by omega));omega
 ·refine⟨fun q hq=>?_,fun q hq h0 j hj hb2=>?_⟩
  ·rcases zq q hq with e | ⟨e,hqx⟩
   ·subst e;refine .inr (.inr ⟨by rw[ze];exact cst,?_⟩);rw[ze];have cc:0≤c.color∧c.color≤2:=by rw[cco];unfold newCol;split <;> omega
    have ck:c.kind=k:=by rw[hc];rfl
    have cw:c.weak=0:=by rw[hc];rfl
    have:=h.r1.born;exact⟨by rw[ck];exact hk,by omega,by omega,by rw[zbo];omega,cc,cto,by omega⟩
   ·have ok:=h.r2.1 q hqx;unfold CellOk;rw[zne q e];rcases ok with o | ⟨o,m⟩ | ⟨o,m⟩
    ·exact .inl o
    ·have mt:=m.2.2.2.2.1;have tt:=m.2.2.2.1;have t0:=m.2.2.1;have e2:=free (x.c q).to.toNat (by omega) (by rw[mt];omega);refine .inr (.inl ⟨o,m.1,by rw[zph];exact m.2.1,t0,tt,by rw[zne _ e2];exact mt,fun hp j hj=>?_⟩);rw[zph] at hp;have:=m.2.2.2.2.2 hp j hj;by_cases ej:j=t
     ·rw[ej,ze];omega
     ·rw[zne j ej];exact this
    ·refine .inr (.inr ⟨o,?_⟩);unfold UsedOk at m ⊢;rw[zbo];omega
  ·have key:∀a,a≠t→a<x.cells.length→(x.c a).st=1→(x.c a).born≤x.born:=fun a _ ha hs=>by
    have:=h.r2.1 a ha;unfold CellOk UsedOk at this;omega
   rcases zq q hq with e | ⟨e,hqx⟩
   ·subst e;rcases zq j (by omega) with e2 | ⟨e2,hjx⟩
    ·omega
    ·rw[zne j e2,ze] at hb2;have:=key j e2 hjx (by omega);omega
   ·rcases zq j (by omega) with e2 | ⟨e2,hjx⟩
    ·subst e2;rw[ze,zne q e] at hb2;have:=key q e hqx (by omega);omega
    ·rw[zne j e2,zne q e] at hb2;rw[zne q e] at h0;exact h.r2.2 q hqx h0 j hj hb2
 ·refine⟨?_,by rw[zus,zro];exact hu⟩;rw[zus,zcs];have uc:unitsOf c=1+n:=by unfold unitsOf;rw[if_pos cst,cpl]
  unfold newCs;by_cases e:t<x.cells.length
  ·rw[if_pos e];have u:=units_set2 x.cells t c e;rw[Hp.c_eq x t e] at u;have u0:unitsOf (x.c t)=0:=by unfold unitsOf;rw[if_neg (by rw[f3 e];omega)]
   omega
  ·rw[if_neg e];have:units (x.cells++[c])=units x.cells+unitsOf c:=by simp [units]
   omega
 ·refine⟨fun i hi=>?_,fun q hq=>?_⟩
  ·have e:z.regs[i]=x.regs[i]'(by rw[←zre];exact hi):=by simp only [zre]
   rw[e];exact ld _ _ (h.r4.1 i (by rw[←zre];exact hi))
  ·rcases zq q hq with e | ⟨e,hqx⟩
   ·subst e;refine⟨fun d=>ncd d.1,fun j hj=>?_⟩;rw[ze,cp j];exact⟨fun d=>(ncd d).elim,fun _=>⟨nl _,nl _⟩⟩
   ·have o:=h.r4.2 q hqx;have md:∀j,Mended z q j↔Mended x q j:=fun j=>by unfold Mended;rw[zph,zha,zsu]
    rw[zne q e];refine⟨fun d=>o.1 ⟨(dm q e).1 d.1,d.2⟩,fun j hj=>?_⟩;have p:=o.2 j hj;refine⟨fun d=>?_,fun d=>?_⟩
    ·have:=p.1 ((dm q e).1 d);exact⟨fm _ this.1,fm _ this.2⟩
    ·have:=p.2 (fun d2=>d ((dm q e).2 d2));have em:(¬Mended z q j)=(¬Mended x q j):=propext (not_congr (md j));rw[em];exact⟨ld _ _ this.1,ld _ _ this.2⟩
 ·refine⟨fun hm=>by rw[zgr];exact h.r5.1 (fun m=>hm (by unfold Marking at m ⊢;rw[zph];exact m)),fun q hq=>?_,fun g hg=>?_⟩
  ·rcases zq q hq with e | ⟨e,hqx⟩
   ·subst e
    have c0:cnt x.gray q=0:=by
     by_cases e:q<x.cells.length
     ·have ok:=h.r2.1 q e;have s0:=f3 e;have:(x.c q).color≠1:=by unfold CellOk Bare at ok;omega
      exact(h.r5.2.1 q e).2.1 this
     ·unfold cnt;rw[List.count_eq_zero];intro hg;have:=h.r5.2.2 _ hg;omega
    unfold ColorOk;rw[ze,zgr,zph,zha,cco];refine⟨fun e1=>?_,fun _=>c0,fun e2=>?_⟩
    ·unfold newCol at e1;split at e1 <;> omega
    ·unfold newCol at e2
     split at e2
     ·rename_i hh;rcases hh with hh | hh | hh
      ·exact .inl (by unfold Marking;rw[zph];exact .inl hh)
      ·exact .inl (by unfold Marking;rw[zph];exact .inr hh)
      ·exact .inr hh
     ·omega
   ·have o:=h.r5.2.1 q hqx;unfold ColorOk at o ⊢;rw[zne q e,zgr,zph,zha]
    exact⟨o.1,o.2.1,fun e2=>by
     rcases o.2.2 e2 with m | m
     ·exact .inl (by unfold Marking at m ⊢;rw[zph];exact m)
     ·exact .inr m⟩
  ·rw[zgr] at hg;have:=h.r5.2.2 g hg;omega
 ·obtain⟨a,b,d,e⟩:=h.r6;refine⟨fun hp=>by rw[zph] at hp;rw[zha,zsu];exact a hp,fun hp=>?_,fun hp=>?_,fun hp=>by rw[zph] at hp;rw[zsu];exact e hp⟩
  ·rw[zph] at hp;have b2:=b hp;have eg:z.g0=x.g0:=by unfold Hp.g0;rw[zgr]
   rw[zha,zgr,zsu,eg];refine⟨b2.1,b2.2.1,fun hg=>?_⟩;have hs:=b2.2.2 hg
   have gl:(x.gray.getD 0 0)∈x.gray:=by
    cases hgr:x.gray with
    | nil=>rw[hgr] at hg;simp at hg
    | cons g G=>simp
   have gr:=h.r5.2.2 _ gl;have g0l:x.g0<x.cells.length:=by unfold Hp.g0;omega
   by_cases e2:x.g0=t
   ·have s0:=f3 (by omega);rw[←e2] at s0;have ok:=h.r2.1 x.g0 g0l;have p0:(x.c x.g0).prs.length=0:=by unfold CellOk Bare at ok;omega
    rw[e2,ze,cpl];omega
   ·rw[zne _ e2];exact hs
  ·rw[zph] at hp;have d2:=d hp;have hh:=h.r1.hand;rw[zha,zsu];have hcase:x.hand.toNat=t∨x.hand.toNat≠t:=by omega
   refine⟨fun hq=>?_,fun hq=>?_⟩
   ·rcases hcase with e2 | e2
    ·rcases hq with hq | hq
     ·exfalso;rw[zl] at hq
      split at hq <;> omega
     ·rw[e2,ze] at hq;omega
    ·rcases hq with hq | hq
     ·refine d2.1 (.inl ?_);rw[zl] at hq
      split at hq <;> omega
     ·rw[zne _ e2] at hq;exact d2.1 (.inr hq)
   ·rcases hcase with e2 | e2
    ·have s0:x.sub=0:=by
      by_cases e3:t<x.cells.length
      ·refine d2.1 (.inr ?_);rw[e2,f3 e3];omega
      ·exact d2.1 (.inl (by omega))
     rw[s0];omega
    ·rw[zne _ e2] at hq ⊢;refine d2.2 ⟨fun e3=>?_,hq.2⟩;have h1:=hq.1;have h2:=hq.2;rw[zl] at h1
     split at h1
     ·omega
     ·omega
 ·intro hm q hq;have hm2:Marking x:=by unfold Marking at hm ⊢;rw[zph] at hm;exact hm
  have wh:∀y:Wd,White z y→White x y:=fun y hy=>⟨hy.1,by
   have h2:=hy.2;by_cases e:y.a.toNat=t
   ·rw[e,ze,cco] at h2;unfold newCol at h2;unfold Marking at hm2;rw[if_pos (by omega)] at h2;omega
   ·rw[zne _ e] at h2;exact h2⟩
  rcases zq q hq with e | ⟨e,hqx⟩
  ·subst e;rw[ze];refine⟨fun s=>?_,fun j _=>?_⟩
   ·have:=s.1;unfold Speaks at this;omega
   ·rw[cp j];exact⟨fun w=>by have:=w.1;simp [Pr0] at this,fun w=>by have:=w.1;simp [Pr0] at this⟩
  ·have o:=h.r7 hm2 q hqx;rw[zne q e,zph,zha];refine⟨o.1,fun j hj=>?_⟩;have lk:looked z q=looked x q:=by unfold looked;rw[zne q e,zph,zgr,zsu]
   rw[lk] at hj;exact⟨fun w=>(o.2 j hj).1 (wh _ w),fun w=>(o.2 j hj).2 (wh _ w)⟩
 ·intro q hq;rw[zph,zha];rcases zq q hq with e | ⟨e,hqx⟩
  ·subst e;rw[ze];intro hb2;omega
  ·rw[zne q e];exact h.r8 q hqx
structure HRow(B U:Nat)(w:World)(x:Hp)(br kr bc kc bg kg:Nat)(pb:Nat→Nat)(pa:Nat→Option Addr)(pk:Nat→Nat):Prop where
 r:SlW w (.slice (some ⟨br,0,none⟩) x.regs.length kr) x.regs
 s:∀q,q<x.cells.length→w.cell? ⟨bc,q*8,none⟩=some (iv (x.c q).st)∧w.cell? ⟨bc,q*8+1,none⟩=some (iv (x.c q).kind)∧w.cell? ⟨bc,q*8+2,none⟩=some (iv (x.c q).weak)∧w.cell? ⟨bc,q*8+3,none⟩=some (iv (x.c q).last)∧w.cell? ⟨bc,q*8+4,none⟩=some (iv (x.c q).born)∧w.cell? ⟨bc,q*8+5,none⟩=some (iv (x.c q).color)∧w.cell? ⟨bc,q*8+6,none⟩=some (iv (x.c q).to)
 p:∀q,q<x.cells.length→SlP w (.slice (pa q) (x.c q).prs.length (pk q)) (x.c q).prs
 g:SlI w (.slice (some ⟨bg,0,none⟩) x.gray.length kg) x.gray
 p7:∀q,q<x.cells.length→w.cell? ⟨bc,q*8+7,none⟩=some (.slice (pa q) (x.c q).prs.length (pk q))
 pl:∀q,q<x.cells.length→0<(x.c q).prs.length→pa q=some ⟨pb q,0,none⟩∧Nf1 (pb q) w∧(pb q≠br∧pb q≠bc∧pb q≠bg)∧B≤pb q∧pb q<U
 nr:Nf1 br w
 nc:Nf1 bc w
 ng:Nf1 bg w
 d:br≠bc∧br≠bg∧bc≠bg
 dp:∀q q',q<x.cells.length→q'<x.cells.length→q≠q'→0<(x.c q).prs.length→0<(x.c q').prs.length→pb q≠pb q'
 b:(B≤br∧br<U)∧(B≤bc∧bc<U)∧(B≤bg∧bg<U)
 l:x.regs.length≤100∧x.cells.length≤8000∧x.gray.length≤8000∧∀q,q<x.cells.length→(x.c q).prs.length≤200
 k:∀q,q<x.cells.length→(x.c q).prs.length≤pk q
theorem nf1_only{S:Nat→Prop}{w w':World}{B:Nat}(h:Nf1 B w)(k:Only S w w')(hs:¬S B):Nf1 B w':=⟨Nat.lt_of_lt_of_le h.1 k.size,fun j=>by rw[k.frozen h.1 hs];exact h.2 j⟩
theorem HRow.ext{B U:Nat}{w w':World}{x:Hp}{br kr bc kc bg kg:Nat}{pb:Nat→Nat}{pa:Nat→Option Addr}{pk:Nat→Nat}(h:HRow B U w x br kr bc kc bg kg pb pa pk)(e:Ext w w'):HRow B U w' x br kr bc kc bg kg pb pa pk:=
 ⟨SlW.ext e h.r,fun q hq=>let ⟨a0,a1,a2,a3,a4,a5,a6⟩:=h.s q hq;⟨e.keep a0,e.keep a1,e.keep a2,e.keep a3,e.keep a4,e.keep a5,e.keep a6⟩,fun q hq=>SlP.ext e (h.p q hq),SlI.ext e h.g,fun q hq=>e.keep (h.p7 q hq),fun q hq hl=>let ⟨a,b,c⟩:=h.pl q hq hl;⟨a,b.ext e,c⟩,h.nr.ext e,h.nc.ext e,h.ng.ext e,h.d,h.dp,h.b,h.l,h.k⟩
theorem HRow.only{S:Nat→Prop}{B U:Nat}{w w':World}{x:Hp}{br kr bc kc bg kg:Nat}{pb:Nat→Nat}{pa:Nat→Option Addr}{pk:Nat→Nat}(h:HRow B U w x br kr bc kc bg kg pb pa pk)(e:Only S w w')(hs:∀q,B≤q→q<U→¬S q):HRow B U w' x br kr bc kc bg kg pb pa pk:=by
 have nr:=hs _ h.b.1.1 h.b.1.2;have nc:=hs _ h.b.2.1.1 h.b.2.1.2;have ng:=hs _ h.b.2.2.1 h.b.2.2.2;refine⟨SlOf.mono2 h.r fun b o n c z o' y hy=>?_,fun q hq=>let ⟨a0,a1,a2,a3,a4,a5,a6⟩:=h.s q hq;⟨e.keep nc a0,e.keep nc a1,e.keep nc a2,e.keep nc a3,e.keep nc a4,e.keep nc a5,e.keep nc a6⟩,fun q hq=>?_,SlOf.mono2 h.g fun b o n c z o' y hy=>?_,fun q hq=>e.keep nc (h.p7 q hq),fun q hq hl=>let ⟨a,b,c⟩:=h.pl q hq hl;⟨a,nf1_only b e (hs _ c.2.1 c.2.2),c⟩,nf1_only h.nr e nr,nf1_only h.nc e nc,nf1_only h.ng e ng,h.d,h.dp,h.b,h.l,h.k⟩
 ·simp only [Value.slice.injEq,Option.some.injEq,Addr.mk.injEq] at z;obtain⟨⟨rfl,_,_⟩,_,_⟩:=z;exact⟨e.keep nr hy.1,e.keep nr hy.2.1,e.keep nr hy.2.2⟩
 ·rcases Nat.eq_zero_or_pos (x.c q).prs.length with z | z
  ·have z2:(x.c q).prs=[]:=List.eq_nil_of_length_eq_zero z;rw[z2];exact SlOf.nil
  ·obtain⟨a,_,c⟩:=h.pl q hq z;refine slP_only e (fun b o n k e2=>?_) (h.p q hq);rw[a] at e2;simp only [Value.slice.injEq,Option.some.injEq,Addr.mk.injEq] at e2;rw[←e2.1.1];exact hs _ c.2.1 c.2.2
 ·simp only [Value.slice.injEq,Option.some.injEq,Addr.mk.injEq] at z;obtain⟨⟨rfl,_,_⟩,_,_⟩:=z;exact e.keep ng hy
def HMd(w:World)(br nr bc n bg ng:Nat)(len pb:Nat→Nat)(pa:Nat→Option Addr)(pk:Nat→Nat):Prop:=(∀j,j<3*nr→w.cell? ⟨br,0+j,none⟩=some (iv (1+j)))∧CMk w bc n len pb pa pk (Kc len (1+3*nr)) n∧∀j,j<ng→w.cell? ⟨bg,0+j,none⟩=some (iv (Kc len (1+3*nr) n+j))
theorem HMd.ext{w w':World}{br nr bc n bg ng:Nat}{len pb:Nat→Nat}{pa:Nat→Option Addr}{pk:Nat→Nat}(h:HMd w br nr bc n bg ng len pb pa pk)(e:Ext w w'):HMd w' br nr bc n bg ng len pb pa pk:=⟨fun j hj=>e.keep (h.1 j hj),h.2.1.ext e,fun j hj=>e.keep (h.2.2 j hj)⟩
end Go.Proofs.YtddkhnclmeikfaaGreat
