import Derived.Test.YtnegjhddmfiefaaGreatDoorLj
set_option maxRecDepth 100000
set_option maxHeartbeats 1000000
namespace Go.Proofs.YtnegjhddmfiefaaGreatDoor
open Go.RowKit
attribute [local go_sem ↓] Go.wp_at_zero Go.wp_at_succ
theorem gres_num(y:Wd)(b:Nat)(w:World)(k2:(y.k == 2)=false):
  Calls Tryz.prog 211 #[.pointer (some ⟨b,0,none⟩),y.v] w fun e w'=>e=.returned y.v∧Ext w w':=by
 go_enter Tryz.func211,Tryz.ntmps211;go_wp2_with fail;go_quiet (fail);go_wp2_with fail;refine bodyPost_ret (v:=y.v) (by simp [results,Tryz.results211,go_sem]) rfl ⟨rfl,?_⟩
 repeat (first | exact Ext.refl _ | refine Ext.drewN ?_ _ | refine Ext.alloc ?_ _ | refine Ext.setCell ?_ (by show w.heap.size≤w.heap.size+1;omega) _)
theorem gres_used(b bc n kc i:Nat)(st:Int)(w:World)(c4:w.cell? ⟨b,4,none⟩=some (.slice (some ⟨bc,0,none⟩) n kc))(p0:w.cell? ⟨bc,i*8,none⟩=some (iv st))(hi:i<n)(s2:(st == 2)=false):
  Calls Tryz.prog 211 #[.pointer (some ⟨b,0,none⟩),.agg #[iv 2,iv 0,iv i]] w fun e w'=>e=.returned (.agg #[iv 2,iv 0,iv i])∧Ext w w':=by
 have hb:b<w.heap.size:=cell_lt c4;have hb':bc<w.heap.size:=cell_lt p0;have i0:(0:Int)≤(i:Int):=by omega
 have i1:(i:Int)<(n:Int):=by omega
 go_enter Tryz.func211,Tryz.ntmps211;go_wp2_with fail;go_quiet (fail);go_wp2_with fail;refine bodyPost_ret (v:=.agg #[iv 2,iv 0,iv i]) (by simp [results,Tryz.results211,go_sem]) rfl ⟨rfl,?_⟩
 repeat (first | exact Ext.refl _ | refine Ext.drewN ?_ _ | refine Ext.alloc ?_ _ | refine Ext.setCell ?_ (by show w.heap.size≤w.heap.size+1;omega) _)
theorem gres_moved(b bc n kc i:Nat)(st tv:Int)(w:World)(c4:w.cell? ⟨b,4,none⟩=some (.slice (some ⟨bc,0,none⟩) n kc))(p0:w.cell? ⟨bc,i*8,none⟩=some (iv st))(p6:w.cell? ⟨bc,i*8+6,none⟩=some (iv tv))(hi:i<n)(s2:(st == 2)=true):
  Calls Tryz.prog 211 #[.pointer (some ⟨b,0,none⟩),.agg #[iv 2,iv 0,iv i]] w fun e w'=>e=.returned (.agg #[iv 2,iv 0,iv tv])∧Ext w w':=by
 have hb:b<w.heap.size:=cell_lt c4;have hb':bc<w.heap.size:=cell_lt p0;have i0:(0:Int)≤(i:Int):=by omega
 have i1:(i:Int)<(n:Int):=by omega
 go_enter Tryz.func211,Tryz.ntmps211;go_wp2_with fail;go_quiet (fail);go_wp2_with fail
 go_region
 all_goals
  go_wp2_with fail;refine bodyPost_ret (v:=.agg #[iv 2,iv 0,iv tv]) (by simp [results,Tryz.results211,go_sem]) rfl ⟨rfl,?_⟩
  repeat (first | exact Ext.refl _ | refine Ext.drewN ?_ _ | refine Ext.drew ?_ | refine Ext.alloc ?_ _ | refine Ext.setCell ?_ (by show w.heap.size≤w.heap.size+1;omega) _)
theorem gres_any[Inhabited ProtD]{B:Nat}{g:Nat}{x:Hp}{ar:Option Addr}{kr:Nat}{ac:Option Addr}{kc:Nat}{vg:Value}{br bc:Nat}{pb:Nat→Nat}{pa:Nat→Option Addr}{pk:Nat→Nat}{role:Nat→Nat}(y:Wd)(w:World)(h:GAt B w g x ar kr ac kc vg br bc pb pa pk role)(hy:Formed y x.cells.length):
  Calls Tryz.prog 211 #[.pointer (some ⟨g,0,none⟩),y.v] w fun e w'=>e=.returned (resW x y).v∧Ext w w':=by
 cases q:(y.k == 2)
 ·have e:resW x y=y:=by
   unfold resW;rw[if_neg];intro h;simp [h.1] at q
  rw[e];exact gres_num y g w q
 ·have hk:y.k=2:=by simpa using q
  obtain⟨k,n,a⟩:=y;simp only at hk;subst hk;unfold Formed at hy;simp only at hy;obtain⟨i,rfl⟩:∃i:Nat,a=(i:Int):=⟨a.toNat,by omega⟩;obtain rfl:n=0:=by omega
  have hi:i<x.cells.length:=by omega
  have hn:0<x.cells.length:=by omega
  have c4:=h.bx.2.2.2.2.1;rw[h.hc hn] at c4;obtain⟨p0,_,_,_,_,_,p6⟩:=h.rw.s i hi;have ei:((i:Int)).toNat=i:=by omega
  cases q2:((x.c i).st == 2)
  ·have e:resW x ⟨2,0,i⟩=⟨2,0,i⟩:=by
    unfold resW;rw[if_neg];intro h;simp only [ei] at h;simp [h.2] at q2
   rw[e];exact gres_used g bc _ kc i _ w c4 p0 hi q2
  ·have e:resW x ⟨2,0,i⟩=⟨2,0,(x.c i).to⟩:=by
    unfold resW;simp only [ei];rw[if_pos ⟨trivial,by simpa using q2⟩]
   rw[e];exact gres_moved g bc _ kc i _ _ w c4 p0 p6 hi q2
theorem GAt.setp[Inhabited ProtD]{B:Nat}{w w':World}{g:Nat}{x:Hp}{ar:Option Addr}{kr:Nat}{ac:Option Addr}{kc:Nat}{vg:Value}{br bc:Nat}{pb:Nat→Nat}{pa:Nat→Option Addr}{pk:Nat→Nat}{role:Nat→Nat}(h:GAt B w g x ar kr ac kc vg br bc pb pa pk role)(i:Nat)(hi:i<x.cells.length)(k:Nat)(hk:k<(x.c i).prs.length)(p':Pr)(o:Only (fun q=>q=pb i) w w')(nf:Nf1 (pb i) w')(hp:PrAt w' (pb i) (k*6) p')(ho:∀j,(j<k*6∨k*6+6≤j)→w'.cell? ⟨pb i,j,none⟩=w.cell? ⟨pb i,j,none⟩):
  GAt B w' g { x with cells:=x.cells.set i { x.c i with prs:=(x.c i).prs.set k p' } } ar kr ac kc vg br bc pb pa pk role:=by
 have hl0:0<(x.c i).prs.length:=by omega
 have ri:=h.sp.p i hi (h.rw.pw hi hl0);have far:∀q,q<w.heap.size→role q≠6+i→w'.heap[q]?=w.heap[q]?:=fun q hq hr=>o.block q hq (fun e=>hr (by rw[e];exact ri))
 have hn:0<x.cells.length:=by omega
 have hl:({ x with cells:=x.cells.set i { x.c i with prs:=(x.c i).prs.set k p' } }:Hp).cells.length=x.cells.length:=by simp
 have hc:=Hp.c_set x i { x.c i with prs:=(x.c i).prs.set k p' } hi;have hne:∀q,q≠i→(({ x with cells:=x.cells.set i { x.c i with prs:=(x.c i).prs.set k p' } }:Hp).c q)=x.c q:=fun q e=>by rw[hc q,if_neg e]
 have hei:(({ x with cells:=x.cells.set i { x.c i with prs:=(x.c i).prs.set k p' } }:Hp).c i)={ x.c i with prs:=(x.c i).prs.set k p' }:=by rw[hc i,if_pos rfl]
 have hpl:∀q,(({ x with cells:=x.cells.set i { x.c i with prs:=(x.c i).prs.set k p' } }:Hp).c q).prs.length=(x.c q).prs.length:=fun q=>by
  by_cases e:q=i
  ·rw[e,hei];simp
  ·rw[hne q e]
 have fg:=far g h.nf.1 (by rw[h.sp.g];omega);have fc:=far bc (h.rw.nc hn).1.1 (by rw[h.sp.c hn];omega);have pf:∀q,q<x.cells.length→q≠i→0<pk q→w'.heap[pb q]?=w.heap[pb q]?:=fun q hq hqi hl=>far (pb q) (h.rw.pl q hq hl).2.1.1 (by rw[h.sp.p q hq hl];omega)
 refine⟨?_,nf1_block h.nf fg o.size,h.lo,h.ha,fun _=>h.hc hn,⟨fun j hj=>?_,fun q hq=>?_,fun q hq=>?_,fun q hq j hj=>?_,fun q hq hlq=>?_,fun hr=>⟨nf1_block (h.rw.nr hr).1 (far br (h.rw.nr hr).1.1 (by rw[h.sp.r hr];omega)) o.size,(h.rw.nr hr).2⟩,fun _=>⟨nf1_block (h.rw.nc hn).1 fc o.size,(h.rw.nc hn).2⟩,fun _=>h.rw.d hn,fun q q' hq hq' hne h1 h2=>?_,fun q hq=>?_⟩,h.gr.block (fun q hq=>far q (h.gr.lt q hq).2 (by rw[h.sp.y q hq];omega)),⟨h.sp.g,h.sp.r,fun _=>h.sp.c hn,h.sp.y,fun q hq hlq=>?_⟩,by rw[hl];exact h.kl,h.pr.of (fun q hq h1=>far q hq (by rw[h1];omega)) (fun _ _ h=>h),fun hk=>(h.cc hk).block rfl (far bc (h.cc hk).nf.1 (by rw[(h.cc hk).ro];omega)) o.size⟩
 ·rw[hl];exact(h.bx.block fg)
 ·exact(h.rw.r j hj).of fun m _=>World.cell?_of_block (a:=⟨br,_,none⟩) (far br (h.rw.nr (by have:j<x.regs.length:=hj;omega)).1.1 (by rw[h.sp.r (by have:j<x.regs.length:=hj;omega)];omega))
 ·rw[hl] at hq;have key:S7 w' bc (q*8) (x.c q):=(h.rw.s q hq).of fun m _=>World.cell?_of_block (a:=⟨bc,_,none⟩) fc
  by_cases e:q=i
  ·subst e;rw[hei];exact key
  ·rw[hne q e];exact key
 ·rw[hl] at hq;rw[hpl q,World.cell?_of_block (a:=⟨bc,_,none⟩) fc];exact h.rw.p7 q hq
 ·rw[hl] at hq;rw[hpl q] at hj;by_cases e:q=i
  ·subst e;rw[hei];by_cases ej:j=k
   ·subst ej;have:({ x.c q with prs:=(x.c q).prs.set j p' }:Cl).p j=p':=by simp [Cl.p,hj]
    rw[this];exact hp
   ·have:({ x.c q with prs:=(x.c q).prs.set k p' }:Cl).p j=(x.c q).p j:=by
     have hkj:k≠j:=fun e=>ej e.symm
     simp [Cl.p,List.getElem?_set_ne hkj]
    rw[this];exact(h.rw.p q hq j hj).of fun m hm=>ho _ (by omega)
  ·rw[hne q e];exact(h.rw.p q hq j hj).of fun m _=>World.cell?_of_block (a:=⟨pb q,_,none⟩) (pf q hq e (h.rw.pw hq (by omega)))
 ·rw[hl] at hq;obtain⟨a1,a2,a3⟩:=h.rw.pl q hq hlq;by_cases e:q=i
  ·subst e;exact⟨a1,nfp_pair a2 nf hp ho,a3⟩
  ·exact⟨a1,nfp_block a2 (pf q hq e hlq) o.size,a3⟩
 ·rw[hl] at hq hq';exact h.rw.dp q q' hq hq' hne h1 h2
 ·rw[hl] at hq;rw[hpl q];exact h.rw.kp q hq
 ·rw[hl] at hq;exact h.sp.p q hq hlq
theorem fstFree_at(x:Hp)(k:Nat)(hk:k<x.cells.length)(h0:∀q,q<k→(x.c q).st≠0)(h1:(x.c k).st=0):fstFree x=k:=by
 obtain⟨_,a,b⟩:=fstFree_is x;rcases Nat.lt_trichotomy (fstFree x) k with e | e | e
 ·exact absurd (b (by omega)) (h0 _ e)
 ·exact e
 ·exact absurd h1 (a k e)
theorem fstFree_no(x:Hp)(h0:∀q,q<x.cells.length→(x.c q).st≠0):fstFree x=x.cells.length:=by
 obtain⟨a,_,b⟩:=fstFree_is x;rcases Nat.lt_or_ge (fstFree x) x.cells.length with e | e
 ·exact absurd (b e) (h0 _ e)
 ·omega
theorem l3free_any[Inhabited ProtD]{B g:Nat}{x:Hp}{w:World}{ar:Option Addr}{kr:Nat}{ac:Option Addr}{kc:Nat}{vg:Value}{br bc:Nat}{pb:Nat→Nat}{pa:Nat→Option Addr}{pk:Nat→Nat}{role:Nat→Nat}(h:GAt B w g x ar kr ac kc vg br bc pb pa pk role)(n8:x.cells.length≤8000):
  Calls Tryz.prog 208 #[.pointer (some ⟨g,0,none⟩)] w fun e w'=>e=.returned (.int .i64 (fstFree x))∧Ext w w':=by
 have H:=hide h;have c4:=h.bx.2.2.2.2.1;have hgw:g<w.heap.size:=cell_lt c4;clear h;go_enter Tryz.func208,Tryz.ntmps208;go_wp2_with fail;go_loopw [10] (fun i wr=>∃k:Nat,k≤x.cells.length∧i=.int .i64 k∧Hid (∀q,q<k→(x.c q).st≠0)∧Ext w wr) (fun i _=>x.cells.length-(intOf i).toNat)
 case atStart=>exact⟨0,Nat.zero_le _,rfl,(fun q hq=>by omega),Ext.refl _⟩
 case round=>
  obtain⟨k,hk,rfl,h0,hxr⟩:=hrel;by_cases hlt:k<x.cells.length
  ·have hn:0<x.cells.length:=by omega
   have Hr:=hide ((unhide H).ext hxr);obtain⟨p0,p1,p2,p3,p4,p5,p6⟩:=(unhide Hr).rw.s k hlt;have p7:=(unhide Hr).rw.p7 k hlt;have hbc:bc<wr.heap.size:=cell_lt p0;obtain rfl:ac=some ⟨bc,0,none⟩:=(unhide H).hc hn;have k0:(0:Int)≤(k:Int):=by omega
   have k1:(k:Int)<(x.cells.length:Int):=by omega
   clear c4;cases q:((x.c k).st == 0)
   ·have Q:=hide (show ∀q,q<k+1→(x.c q).st≠0 from fun q hq=>by
     by_cases e:q=k
     ·rw[e];simpa using ‹((x.c k).st == 0)=false›
     ·exact unhide h0 q (by omega))
    go_wp2_with fail;go_roundw
    case rel=>exact⟨k+1,by omega,by go_num,unhide Q,hxr.alloc _⟩
    case measure=>simp [intOf];omega
   ·have Q:=hide (fstFree_at x k hlt (unhide h0) (by simpa using q));go_wp2_with fail;go_ret;exact⟨by rw[unhide Q];rfl,hxr.alloc _⟩
  ·have Q:=hide (show fstFree x=x.cells.length from fstFree_no x (fun q hq=>unhide h0 q (by omega)));have hk2:k=x.cells.length:=by omega
   subst hk2;have d4:=hxr.keep c4;clear c4;go_wp2_with fail;go_ret;exact⟨by rw[unhide Q];rfl,hxr⟩
end Go.Proofs.YtnegjhddmfiefaaGreatDoor
