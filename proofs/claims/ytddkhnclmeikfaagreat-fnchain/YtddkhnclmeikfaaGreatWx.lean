import Derived.Test.YtddkhnclmeikfaaGreatImpR
import Derived.Test.YtddkhnclmeikfaaGreatAg
import Derived.Test.YtddkhnclmeikfaaGreatImpB5
set_option maxRecDepth 100000
set_option maxHeartbeats 4000000
namespace Go.Proofs.YtddkhnclmeikfaaGreat
open Go.RowKit
attribute [local go_sem ↓] Go.wp_at_zero Go.wp_at_succ
theorem OkIs.r2{x:Hp}(h:OkIs x 0):R2 x:=by
 unfold OkIs at h;rcases h with h | h | h | h | h | h | h | h | h
 ·omega
 ·omega
 ·omega
 ·omega
 ·omega
 ·omega
 ·omega
 ·omega
 ·exact h.2.1
theorem follow_none(y:Wd)(b:Nat)(w:World)(k2:(y.k == 2)=false):
  Calls Tryz.prog 123 #[.pointer (some ⟨b,0,none⟩),y.v] w fun e w'=>e=.returned (.pointer none)∧Ext w w':=by
 go_enter Tryz.func123,Tryz.ntmps123;go_wp2_with fail;refine(find_none y b _ k2).mono ?_;rintro e w1 ⟨rfl,hq⟩;go_wp2_with fail;go_ret;exact⟨rfl,Ext.trans ((Ext.refl w).alloc _) hq⟩
def lead(x:Hp)(i:Nat):Nat:=if ((x.c i).st == 2)=true then (x.c i).to.toNat else i
theorem follow_some(x:Hp)(y:Wd)(b i:Nat)(w:World){ac:Nat→Option Addr}{an:Option Addr}{kn:Nat}(h:FwAt w b x ac an kn)(r2:R2 x)(k2:(y.k == 2)=true)(hi:i<x.cells.length)(bn on:Nat)(ha:an=some ⟨bn,on,none⟩):
  Calls Tryz.prog 123 #[.pointer (some ⟨b,0,none⟩),.agg #[iv y.k,iv y.n,iv i]] w fun e w'=>e=.returned (.pointer (some ⟨bn,on+lead x i*2,none⟩))∧Ext w w':=by
 subst ha;have x1:=(Ext.refl w).alloc (.cells #[iv y.k,iv y.n,iv i] 152);cases ts:((x.c i).st == 2)
 ·have L:=hide (show lead x i=i by simp only [lead,ts];simp);obtain⟨bn',on',bc,oc,e1,_,m1,p0,_⟩:=h.N i hi;cases e1;have n13:=h.n13;clear h r2;go_enter Tryz.func123,Tryz.ntmps123;go_wp2_with fail;refine(find_some y b x.cells.length bn on kn i _ k2 (x1.keep n13) hi).mono ?_;rintro e w1 ⟨rfl,hq⟩;have x2:=x1.trans hq;have m1':=x2.keep m1;have p0':=x2.keep p0;clear m1 p0 n13;go_wp2_with fail;go_ret;exact⟨by rw[unhide L];rfl,x2⟩
 ·have hs:(x.c i).st=2:=by simpa using ts
  obtain⟨t,ht⟩:∃t:Nat,(x.c i).to=(t:Int):=⟨(x.c i).to.toNat,by
   have:=r2.1 i hi;unfold CellOk MovedOk at this;omega⟩
  have hti:t<i:=by
   have:=r2.1 i hi;unfold CellOk MovedOk at this;omega
  have L:=hide (show lead x i=t by simp only [lead,ts];simp [ht]);obtain⟨bn',on',bc,oc,e1,_,m1,p0,p6⟩:=h.N i hi;cases e1;rw[ht] at p6;have n13:=h.n13;have t0:(0:Int)≤(t:Int):=by omega
  have t1:(t:Int)<(x.cells.length:Int):=by omega
  clear h r2 ht hs;go_enter Tryz.func123,Tryz.ntmps123;go_wp2_with fail;refine(find_some y b x.cells.length bn on kn i _ k2 (x1.keep n13) hi).mono ?_;rintro e w1 ⟨rfl,hq⟩;have x2:=x1.trans hq;have m1':=x2.keep m1;have p0':=x2.keep p0;have p6':=x2.keep p6;have n13':=x2.keep n13;clear m1 p0 n13 p6;go_wp2_with fail;go_quiet (fail);go_wp2_with fail;go_ret;exact⟨by rw[unhide L];rfl,x2.drewN _⟩
theorem limits_12(x:Hp)(b:Nat)(w:World){ar:Option Addr}{kr:Nat}{ac:Option Addr}{kc:Nat}{ag:Option Addr}{kg:Nat}(h:HAt w b x ar kr ac kc ag kg)(q0:withinB x.room 1 4000=true)(q1:((x.regs.length:Int) == 16)=true)(q2:decide ((x.cells.length:Int)≤2*x.room)=true)(q3:decide ((x.gray.length:Int)≤(x.cells.length:Int))=true)(q4:withinB x.born 0 1000000000=true)(q5:withinB x.rounds 0 1000000000=true)(q6:withinB x.forced 0 1000000000=true)(q7:withinB x.per 0 64=true)(q8:withinB x.start 0 4000=true)(q9:withinB x.phase 0 6=true)(q10:withinB x.hand 0 (x.cells.length:Int)=true)(q11:withinB x.sub 0 200=true):
  Calls Tryz.prog 106 #[.pointer (some ⟨b,0,none⟩)] w fun e w'=>e=.returned (.bool true)∧Ext w w':=by
 obtain⟨c0,c1,c2,c3,c4,c5,c6,c7,c8,c9,c10,c11,c12,lr,lc,lg,R,C,G⟩:=h;clear R C G;have p0:=withinB_true q0;have p1:(0:Int)≤x.room:=by omega
 have q2b:(x.cells.length:Int)≤2*x.room:=of_decide_eq_true q2;clear q2;have q3b:x.gray.length≤x.cells.length:=by have:=of_decide_eq_true q3;omega
 clear q3;have q1b:(x.regs.length:Int)=16:=by simpa using q1
 clear q1;go_enter Tryz.func106,Tryz.ntmps106;go_wp2_with fail;simp only [List.append];refine wp_region_quiet_lit (by kernel_rfl) lim_lex ?_
 repeat (go_big_quiet_step ((go_at_call 78;first | (refine Calls.quiet_of_same (within_is _ _ _ true ?_ _);assumption) | (refine Calls.quiet_of_same (within_is _ _ _ false ?_ _);assumption))))
 refine wpQuiet_nil ?_;intro _ hw';obtain⟨nq,hw''⟩:=hw';subst hw'';go_wp2_with fail;go_ret;exact⟨rfl,Ext.drewN (Ext.refl w) _⟩
theorem dalloc_new(w:World)(n:Nat)(cs:Array Value)(t:TypeId)(j:Nat):((w.drewN n).alloc (.cells cs t)).cell? ⟨w.heap.size,j,none⟩=cs[j]?:=by
 have e:(w.drewN n).heap.size=w.heap.size:=by simp
 have:=heap_alloc_new (w.drewN n) (.cells cs t);rw[e] at this;exact cell_of_row _ w.heap.size j _ _ (0,0) this
theorem dalloc_old(w:World)(n:Nat)(o:Obj)(b j:Nat)(h:b<w.heap.size):((w.drewN n).alloc o).cell? ⟨b,j,none⟩=w.cell? ⟨b,j,none⟩:=by
 have x:=((Ext.refl w).drewN n).alloc o;exact x.cell (p:=⟨b,j,none⟩) h
theorem dalloc_fr(w:World)(n:Nat)(cs:Array Value)(t:TypeId)(j:Nat):((w.drewN n).alloc (.cells cs t)).frozen? ⟨w.heap.size,j,none⟩=false:=by
 have e:(w.drewN n).heap.size=w.heap.size:=by simp
 have key:∀W:World,(W.alloc (.cells cs t)).frozen? ⟨W.heap.size,j,none⟩=false:=fun W=>by simp [go_sem]
 have:=key (w.drewN n);rw[e] at this;exact this
theorem GAt.setc[Inhabited ProtD]{B:Nat}{w w':World}{g:Nat}{x:Hp}{ar:Option Addr}{kr:Nat}{ac:Option Addr}{kc:Nat}{vg:Value}{br bc:Nat}{pb:Nat→Nat}{pa:Nat→Option Addr}{pk:Nat→Nat}{role:Nat→Nat}{i:Nat}{c':Cl}(h:GAt B w g x ar kr ac kc vg br bc pb pa pk role)(hi:i<x.cells.length)(hp:c'.prs=(x.c i).prs)(o:Only (fun q=>q=bc) w w')(hs:S7 w' bc (i*8) c')(ho:∀k,(k<i*8∨i*8+7≤k)→w'.cell? ⟨bc,k,none⟩=w.cell? ⟨bc,k,none⟩)(nf:Nf1 bc w'):
  GAt B w' g { x with cells:=x.cells.set i c' } ar kr ac kc vg br bc pb pa pk role:=by
 have hn:0<x.cells.length:=by omega
 have far:∀q,q<w.heap.size→role q≠3→w'.heap[q]?=w.heap[q]?:=fun q hq hr=>o.block q hq (fun e=>hr (by rw[e];exact h.sp.c hn))
 have hl:({ x with cells:=x.cells.set i c' }:Hp).cells.length=x.cells.length:=by simp
 have hc:=Hp.c_set x i c' hi
 have hpr:∀q,(({ x with cells:=x.cells.set i c' }:Hp).c q).prs=(x.c q).prs:=fun q=>by
  rw[hc q];by_cases e:q=i
  ·rw[if_pos e,hp,e]
  ·rw[if_neg e]
 have fg:=far g h.nf.1 (by rw[h.sp.g];omega);have pf:∀q,q<x.cells.length→0<pk q→w'.heap[pb q]?=w.heap[pb q]?:=fun q hq hl=>far (pb q) (h.rw.pl q hq hl).2.1.1 (by rw[h.sp.p q hq hl];omega)
 refine⟨?_,nf1_block h.nf fg o.size,h.lo,h.ha,fun _=>h.hc hn,⟨fun k hk=>?_,fun q hq=>?_,fun q hq=>?_,fun q hq k hk=>?_,fun q hq hlq=>?_,fun hr=>⟨nf1_block (h.rw.nr hr).1 (far br (h.rw.nr hr).1.1 (by rw[h.sp.r hr];omega)) o.size,(h.rw.nr hr).2⟩,fun _=>⟨nf,(h.rw.nc hn).2⟩,fun _=>h.rw.d hn,fun q q' hq hq' hne h1 h2=>?_,fun q hq=>?_⟩,h.gr.block (fun q hq=>far q (h.gr.lt q hq).2 (by rw[h.sp.y q hq];omega)),⟨h.sp.g,h.sp.r,fun _=>h.sp.c hn,h.sp.y,fun q hq hlq=>?_⟩,by rw[hl];exact h.kl,h.pr.of (fun q hq h1=>far q hq (by rw[h1];omega)) (fun _ _ h=>h),fun hk=>(h.cc hk).cells rfl nf (fun j v _ hv=>?_)⟩
 ·rw[hl];exact(h.bx.block fg)
 ·exact(h.rw.r k hk).of fun j _=>World.cell?_of_block (a:=⟨br,_,none⟩) (far br (h.rw.nr (by have:k<x.regs.length:=hk;omega)).1.1 (by rw[h.sp.r (by have:k<x.regs.length:=hk;omega)];omega))
 ·rw[hl] at hq;rw[hc q];by_cases e:q=i
  ·subst e;rw[if_pos rfl];exact hs
  ·rw[if_neg e];exact(h.rw.s q hq).of fun j hj=>ho _ (by omega)
 ·rw[hl] at hq;rw[hpr q,ho _ (by omega)];exact h.rw.p7 q hq
 ·rw[hl] at hq;have e2:(({ x with cells:=x.cells.set i c' }:Hp).c q).p k=(x.c q).p k:=by simp only [Cl.p,hpr q]
  rw[hpr q] at hk;rw[e2];exact(h.rw.p q hq k hk).of fun j _=>World.cell?_of_block (a:=⟨pb q,_,none⟩) (pf q hq (h.rw.pw hq (by omega)))
 ·rw[hl] at hq;obtain⟨a1,a2,a3⟩:=h.rw.pl q hq hlq;exact⟨a1,nfp_block a2 (pf q hq hlq) o.size,a3⟩
 ·rw[hl] at hq hq';exact h.rw.dp q q' hq hq' hne h1 h2
 ·rw[hl] at hq;rw[hpr q];exact h.rw.kp q hq
 ·rw[hl] at hq;exact h.sp.p q hq hlq
 ·by_cases e:j<i*8∨i*8+7≤j
  ·exact⟨v,(ho j e).trans hv⟩
  ·have:=hs.some (j-i*8) (by omega);rw[show i*8+(j-i*8)=j by omega] at this;exact this
theorem GAt.push[Inhabited ProtD]{B:Nat}{W w5:World}{g:Nat}{x:Hp}{ar:Option Addr}{kr:Nat}{ac:Option Addr}{kc:Nat}{vg:Value}{br bc:Nat}{pb:Nat→Nat}{pa:Nat→Option Addr}{pk:Nat→Nat}{role:Nat→Nat}{i:Int}{gb go cap:Nat}(h:GAt B W g x ar kr ac kc vg br bc pb pa pk role)(hg:W.grownBy w5 vg.ownBlock)(h5:Grw w5 B (.slice (some ⟨gb,go,none⟩) (x.gray.length+1) cap) (x.gray++[i]))(hat:vg.ownBlock=some gb∨gb=W.heap.size):
  GAt B (w5.setCell ⟨g,8,none⟩ (.slice (some ⟨gb,go,none⟩) (x.gray.length+1) cap)) g { x with gray:=x.gray++[i] } ar kr ac kc (.slice (some ⟨gb,go,none⟩) (x.gray.length+1) cap) br bc pb pa pk (fun q=>if q=gb then 4 else role q):=by
 have hgb:∀q,q<W.heap.size→role q≠4→q≠gb:=fun q hq hr e=>by
  rcases hat with a | a
  ·exact hr (by rw[e];exact h.sp.y gb a)
  ·omega
 have far:∀q,q<W.heap.size→role q≠4→w5.heap[q]?=W.heap[q]?:=fun q hq hr=>hg.block q hq (fun e=>hr (h.sp.y q e.symm))
 have hb:=h.nf.1;have rb:role g≠4:=by rw[h.sp.g];omega
 have fb:=far g hb rb;have nbg:=hgb g hb rb;have far2:∀q,q<W.heap.size→role q≠4→q≠g→(w5.setCell ⟨g,8,none⟩ (.slice (some ⟨gb,go,none⟩) (x.gray.length+1) cap)).heap[q]?=W.heap[q]?:=fun q hq hr hne=>(Below.heap_setCell _ _ _ _ hne).trans (far q hq hr)
 have hsz:W.heap.size≤(w5.setCell ⟨g,8,none⟩ (.slice (some ⟨gb,go,none⟩) (x.gray.length+1) cap)).heap.size:=by have:=hg.size;simpa [World.setCell] using this
 have rw2:=h.rw.same hsz (fun hl=>far2 br (h.rw.nr hl).1.1 (by rw[h.sp.r hl];omega) (fun e=>by have h1:=h.sp.r hl;have h2:=h.sp.g;rw[e] at h1;omega)) (fun hl=>far2 bc (h.rw.nc hl).1.1 (by rw[h.sp.c hl];omega) (fun e=>by have h1:=h.sp.c hl;have h2:=h.sp.g;rw[e] at h1;omega)) (fun q hq hl=>far2 (pb q) (h.rw.pl q hq hl).2.1.1 (by rw[h.sp.p q hq hl];omega) (fun e=>by have h1:=h.sp.p q hq hl;have h2:=h.sp.g;rw[e] at h1;omega));refine⟨(h.bx.block fb).set8 _,(nf1_block h.nf fb hg.size).set _ _,h.lo,h.ha,h.hc,⟨rw2.r,rw2.s,rw2.p7,rw2.p,rw2.pl,rw2.nr,rw2.nc,rw2.d,rw2.dp,rw2.kp⟩,?_,⟨?_,fun hl=>?_,fun hl=>?_,fun q hq=>?_,fun q hq hl=>?_⟩,h.kl,h.pr.of (fun q hq h1=>far2 q hq (by rw[h1];omega) (fun e=>by have h2:=h.sp.g;rw[e] at h1;omega)) (fun q hq h1=>by(try dsimp only);rw[if_neg (hgb q hq (by rw[h1];omega))];exact h1),fun hk=>(h.cc hk).block (if_neg (hgb bc (h.cc hk).nf.1 (by rw[(h.cc hk).ro];omega))) (far2 bc (h.cc hk).nf.1 (by rw[(h.cc hk).ro];omega) (fun e=>by have h1:=(h.cc hk).ro;have h2:=h.sp.g;rw[e] at h1;omega)) hsz⟩
 ·exact h5.block (w':=w5.setCell ⟨g,8,none⟩ (.slice (some ⟨gb,go,none⟩) (x.gray.length+1) cap)) (fun q hq=>Below.heap_setCell _ _ _ _ (fun e=>nbg (by simp [Value.ownBlock] at hq;rw[hq];exact e.symm)))
 ·rw[if_neg nbg];exact h.sp.g
 ·rw[if_neg (hgb br (h.rw.nr hl).1.1 (by rw[h.sp.r hl];omega))];exact h.sp.r hl
 ·rw[if_neg (hgb bc (h.rw.nc hl).1.1 (by rw[h.sp.c hl];omega))];exact h.sp.c hl
 ·simp [Value.ownBlock] at hq;rw[if_pos hq.symm]
 ·rw[if_neg (hgb (pb q) (h.rw.pl q hq hl).2.1.1 (by rw[h.sp.p q hq hl];omega))];exact h.sp.p q hq hl
def lkH(x:Hp)(j:Nat):Hp:=(x.regs.take j).foldl shadeW x
theorem lkH_succ(x:Hp)(j:Nat)(h:j<x.regs.length):lkH x (j+1)=shadeW (lkH x j) x.regs[j]:=by
 unfold lkH;rw[List.take_succ_eq_append_getElem h,List.foldl_append];rfl
theorem lkH_all(x:Hp):lkH x x.regs.length=lookH x:=by unfold lkH lookH;rw[List.take_length]
theorem lkH_shd{x:Hp}(s:Snd x)(hp:x.phase=2)(j:Nat):Shd x (lkH x j):=by
 refine(Shd.fold (.inr hp) (x.regs.take j) x (fun y hy=>?_) (Shd.refl s)).1;obtain⟨i,hi,e⟩:=List.mem_iff_getElem.1 (List.mem_of_mem_take hy);rw[←e];exact s.good_reg i hi
theorem obj_lt{w:World}{q:Nat}{o:Obj}(h:w.heap[q]?=some o):q<w.heap.size:=by
 rcases Nat.lt_or_ge q w.heap.size with l | l
 ·exact l
 ·rw[Array.getElem?_eq_none l] at h;cases h
theorem GAt.far{z z2:Nat→Option Obj}{B:Nat}{w w':World}{g:Nat}{x:Hp}{ar:Option Addr}{kr:Nat}{ac:Option Addr}{kc:Nat}{vg:Value}{br bc:Nat}{pb:Nat→Nat}{pa:Nat→Option Addr}{pk:Nat→Nat}{role role':Nat→Nat}(h:@GAt ⟨⟨z⟩⟩ B w g x ar kr ac kc vg br bc pb pa pk role)(hs:w.heap.size≤w'.heap.size)(far:∀q,q<w.heap.size→role q≠1→w'.heap[q]?=w.heap[q]?)(hr:∀q,q<w.heap.size→role q≠1→role' q=role q)(hp:∀q o,z2 q=some o→role' q=1∧w'.heap[q]?=some o):@GAt ⟨⟨z2⟩⟩ B w' g x ar kr ac kc vg br bc pb pa pk role':=by
 obtain⟨bx,nf,lo,ha,hc,rs,gr,sp,kl,_,cc⟩:=h;have fg:=far g nf.1 (by rw[sp.g];omega)
 letI:Inhabited ProtD:=⟨⟨z2⟩⟩
 refine⟨bx.block fg,nf1_block nf fg hs,lo,ha,hc,rs.same hs (fun hl=>far br (rs.nr hl).1.1 (by rw[sp.r hl];omega)) (fun hl=>far bc (rs.nc hl).1.1 (by rw[sp.c hl];omega)) (fun q hq hl=>far (pb q) (rs.pl q hq hl).2.1.1 (by rw[sp.p q hq hl];omega)),gr.block (fun q hq=>far q (gr.lt q hq).2 (by rw[sp.y q hq];omega)),⟨?_,fun hl=>?_,fun hl=>?_,fun q hq=>?_,fun q hq hl=>?_⟩,kl,hp,fun hk=>(cc hk).block (hr bc (cc hk).nf.1 (by rw[(cc hk).ro];omega)) (far bc (cc hk).nf.1 (by rw[(cc hk).ro];omega)) hs⟩
 ·rw[hr g nf.1 (by rw[sp.g];omega)];exact sp.g
 ·rw[hr br (rs.nr hl).1.1 (by rw[sp.r hl];omega)];exact sp.r hl
 ·rw[hr bc (rs.nc hl).1.1 (by rw[sp.c hl];omega)];exact sp.c hl
 ·rw[hr q (gr.lt q hq).2 (by rw[sp.y q hq];omega)];exact sp.y q hq
 ·rw[hr (pb q) (rs.pl q hq hl).2.1.1 (by rw[sp.p q hq hl];omega)];exact sp.p q hq hl
theorem GOk.guard{z z2:Nat→Option Obj}{B:Nat}{w0 w:World}{g:Nat}{x:Hp}(h:@GOk ⟨⟨z⟩⟩ B w0 g x)(e:Ext w0 w)(hz:∀q o,z2 q=some o→z q=some o∨(w0.heap.size≤q∧w.heap[q]?=some o)):@GOk ⟨⟨z2⟩⟩ B w g x:=by
 obtain⟨ar,kr,ac,kc,vg,br,bc,pb,pa,pk,role,h⟩:=h;have h0:=h;obtain⟨_,_,_,_,_,_,_,_,_,pr,_⟩:=h0;refine⟨ar,kr,ac,kc,vg,br,bc,pb,pa,pk,fun q=>if w0.heap.size≤q then 1 else role q,GAt.far h e.size (fun q hq _=>e.block q hq) (fun q hq _=>if_neg (by omega)) (fun q o hq=>?_)⟩;rcases hz q o hq with a | ⟨a,b⟩
 ·obtain⟨h1,h2⟩:=pr q o a;have hl:=obj_lt h2;exact⟨by show(if w0.heap.size≤q then 1 else role q)=1;rw[if_neg (by omega)];exact h1,(e.block q hl).trans h2⟩
 ·exact⟨if_pos a,b⟩
theorem GOk.poke{z z2:Nat→Option Obj}{B:Nat}{w w':World}{g:Nat}{x:Hp}(h:@GOk ⟨⟨z⟩⟩ B w g x)(r:Nat)(o:Obj)(hr:z r=some o)(on:Only (fun q=>q=r) w w')(hz:∀q o,z2 q=some o→q≠r∧z q=some o):@GOk ⟨⟨z2⟩⟩ B w' g x:=by
 obtain⟨ar,kr,ac,kc,vg,br,bc,pb,pa,pk,role,h⟩:=h;have h0:=h;obtain⟨_,_,_,_,_,_,_,_,_,pr,_⟩:=h0;obtain⟨hr1,_⟩:=pr r o hr;refine⟨ar,kr,ac,kc,vg,br,bc,pb,pa,pk,role,GAt.far h on.size (fun q hq hn=>on.block q hq (fun e=>hn (by rw[e];exact hr1))) (fun _ _ _=>rfl) (fun q o2 hq=>?_)⟩;obtain⟨a,b⟩:=hz q o2 hq;obtain⟨h1,h2⟩:=pr q o2 b;exact⟨h1,(on.block q (obj_lt h2) a).trans h2⟩
structure Own(p:Inhabited ProtD)(lo hi:Nat)(c:World)(p1:Inhabited ProtD):Prop where
 z:∀q,(@default ProtD p1).z q=if lo≤q∧q<hi then c.heap[q]? else (@default ProtD p).z q
 l:∀q o,(@default ProtD p).z q=some o→q<lo
 h:hi≤c.heap.size
theorem Own.make(p:Inhabited ProtD)(lo hi:Nat)(c:World)(l:∀q o,(@default ProtD p).z q=some o→q<lo)(h:hi≤c.heap.size):∃p1,Own p lo hi c p1:=⟨⟨⟨fun q=>if lo≤q∧q<hi then c.heap[q]? else (@default ProtD p).z q⟩⟩,fun _=>rfl,l,h⟩
theorem obj_some{w:World}{q:Nat}(h:q<w.heap.size):∃o,w.heap[q]?=some o:=⟨_,Array.getElem?_eq_getElem h⟩
theorem GOk.enter{p:Inhabited ProtD}{B:Nat}{w w0:World}{g:Nat}{x:Hp}(h:@GOk p B w g x)(e:Ext w w0):∃p1,Own p w.heap.size w0.heap.size w0 p1∧@GOk p1 B w0 g x:=by
 have h0:=h;obtain⟨ar,kr,ac,kc,vg,br,bc,pb,pa,pk,role,h0⟩:=h0;obtain⟨_,_,_,_,_,_,_,_,_,pr,_⟩:=h0;obtain⟨p1,hp⟩:=Own.make p w.heap.size w0.heap.size w0 (fun q o hq=>obj_lt (pr q o hq).2) (Nat.le_refl _);refine⟨p1,hp,GOk.guard (z:=(@default ProtD p).z) (z2:=(@default ProtD p1).z) h e (fun q o hq=>?_)⟩;rw[hp.z] at hq
 split at hq
 ·rename_i c;exact .inr ⟨c.1,hq⟩
 ·exact .inl hq
theorem GOk.own{p p1:Inhabited ProtD}{lo hi:Nat}{c:World}(o:Own p lo hi c p1){B:Nat}{w:World}{g:Nat}{x:Hp}(h:@GOk p1 B w g x):∀q,lo≤q→q<hi→w.heap[q]?=c.heap[q]?:=fun q h1 h2=>by
 obtain⟨ar,kr,ac,kc,vg,br,bc,pb,pa,pk,role,h⟩:=h;obtain⟨_,_,_,_,_,_,_,_,_,pr,_⟩:=h;obtain⟨ob,hb⟩:=obj_some (w:=c) (q:=q) (by have:=o.h;omega);have:=(pr q ob (by rw[o.z q,if_pos ⟨h1,h2⟩];exact hb)).2;rw[this,hb]
theorem wInts_same(xs:List Int)(v v':Value)(w:World)(h:SlI w v xs)(h':SlI w v' xs):
  Calls Tryz.prog 46 #[v,v'] w fun e w'=>e=.returned (.bool true)∧Ext w w':=by
 obtain⟨ad,cap,rfl,hl,hx⟩:=h;obtain⟨ad',cap',rfl,_,hx'⟩:=h';have HX:=hide hx;have HY:=hide hx';clear hx hx';go_enter Tryz.func46,Tryz.ntmps46;go_wp2_with fail;go_loopw [5,13] (fun _i i wr=>∃k:Nat,k≤xs.length∧i=.int .i64 k∧Ext w wr) (fun _ i _=>xs.length-(intOf i).toNat)
 case atStart=>exact⟨0,Nat.zero_le _,rfl,Ext.refl _⟩
 case round=>
  obtain⟨k,hk,rfl,hbl⟩:=hrel;by_cases hlt:k<xs.length
  ·obtain⟨b,o,rfl,p0⟩:=unhide HX k hlt;obtain⟨b',o',rfl,q0⟩:=unhide HY k hlt;have e0:=hbl.keep p0;have g0:=hbl.keep q0;clear p0 q0;simp only [Nat.mul_one] at e0 g0;have hb:b<wr.heap.size:=cell_lt e0;have hb':b'<wr.heap.size:=cell_lt g0;have hk0:(0:Int)≤(k:Int):=by omega
   have hk1:(k:Int)<(xs.length:Int):=by omega
   obtain⟨y,hy⟩:∃y,y=xs[k]:=⟨_,rfl⟩;rw[←hy] at e0 g0;clear hy;go_wp2_with fail
   go_region
   go_wp2_with fail;go_roundw
   ·exact⟨k+1,by omega,by go_num,hbl.drew⟩
   ·simp [intOf];omega
  ·go_wp2_with fail;go_ret;exact⟨rfl,hbl⟩
theorem wByte_any(w:World)(u:Value)(i:Nat)(hi:i<1000)(h:ByAt w u):
  Calls Tryz.prog 29 #[u,iv i] w fun e w'=>∃r:Int,Hid (e=.returned (iv r))∧0≤r∧r<256∧w'=w:=by
 obtain⟨ad,n,k,rfl,hn,hx⟩:=h;by_cases h0:n=0
 ·subst h0;go_enter Tryz.func29,Tryz.ntmps29;go_wp2_with fail;go_ret;exact⟨_,rfl,by omega,by omega,rfl⟩
 ·obtain⟨b,o,z,rfl,c0,z0,z1⟩:=hx (i % n) (Nat.mod_lt _ (by omega));have e0:((n:Int) == 0)=false:=by simp;omega
  have e1:((i:Int) % (n:Int))=((i % n:Nat):Int):=by simp
  obtain⟨j,hj⟩:∃j,j=i % n:=⟨_,rfl⟩;have hm:j<n:=by rw[hj];exact Nat.mod_lt _ (by omega)
  rw[←hj] at c0 e1;have j0:(0:Int)≤(j:Int):=by omega
  have j1:(j:Int)<(n:Int):=by omega
  have hb:b<w.heap.size:=cell_lt c0;clear hx hj;go_enter Tryz.func29,Tryz.ntmps29;go_wp2_with fail;rw[e1];go_wp2_with fail;go_ret;exact⟨_,rfl,z0,z1,rfl⟩
end Go.Proofs.YtddkhnclmeikfaaGreat
