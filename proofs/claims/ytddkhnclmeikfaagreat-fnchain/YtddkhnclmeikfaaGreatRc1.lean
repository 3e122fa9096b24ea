import Derived.Test.YtddkhnclmeikfaaGreatQa
import Derived.Test.YtddkhnclmeikfaaGreatHh
import Derived.Test.YtddkhnclmeikfaaGreatVf
import Derived.Test.YtddkhnclmeikfaaGreatLsD
import Derived.Test.YtddkhnclmeikfaaGreatWx
set_option maxRecDepth 100000
namespace Go.Proofs.YtddkhnclmeikfaaGreat
open Go.RowKit
attribute [local go_sem ↓] Go.wp_at_zero Go.wp_at_succ
theorem slead_lt{x:Hp}(r2:R2 x)(i:Nat)(hi:i<x.cells.length):lead x i<x.cells.length:=by
 unfold lead
 split
 ·rename_i h;have hs:(x.c i).st=2:=by simpa using h
  have:=r2.1 i hi;unfold CellOk MovedOk at this;omega
 ·exact hi
theorem sfollow_some[Inhabited ProtD]{B:Nat}{w:World}{b:Nat}{x:Hp}{ar:Option Addr}{kr:Nat}{v4 v8:Value}{br bn:Nat}{cB cO:Nat→Nat}{pb:Nat→Nat}{pa:Nat→Option Addr}{pk:Nat→Nat}{kn hd:Nat}{vf:Value}{F:List Int}{vk:Value}{K:List Nat}{role:Nat→Nat}(h:SAt B w b x ar kr v4 v8 br cB cO bn pb pa pk kn hd vf F vk K role)(r2:R2 x)(i:Nat)(hi:i<x.cells.length):
  Calls Tryz.prog 123 #[.pointer (some ⟨b,0,none⟩),.agg #[iv 2,iv 0,iv i]] w fun e w'=>e=.returned (ndp bn (lead x i))∧Ext w w':=by
 have x1:=(Ext.refl w).alloc (.cells #[iv 2,iv 0,iv i] 152);have n13:=h.sb.n13;obtain⟨m0,m1⟩:=h.sb.nd i hi;obtain⟨p0,_,_,_,_,_,p6⟩:=h.rw.s i hi;have QF:=hide (fun W (e:Ext w W)=>find_some ⟨2,0,(i:Int)⟩ b x.cells.length bn 0 kn i W (by simp) (e.keep n13) hi);cases ts:((x.c i).st == 2)
 ·have L:=hide (show lead x i=i by simp only [lead,ts];simp);clear h r2 m0;go_enter Tryz.func123,Tryz.ntmps123;go_wp2_with fail;refine(unhide QF _ x1).mono ?_;rintro e w1 ⟨rfl,hq⟩;rw[Nat.zero_add];have x2:=x1.trans hq;have m1':=x2.keep m1;have p0':=x2.keep p0;clear m1 p0 n13 p6;go_wp2_with fail;go_ret;exact⟨by rw[unhide L];rfl,x2⟩
 ·have hs:(x.c i).st=2:=by simpa using ts
  obtain⟨t,ht⟩:∃t:Nat,(x.c i).to=(t:Int):=⟨(x.c i).to.toNat,by
   have:=r2.1 i hi;unfold CellOk MovedOk at this;omega⟩
  have hti:t<i:=by
   have:=r2.1 i hi;unfold CellOk MovedOk at this;omega
  have L:=hide (show lead x i=t by simp only [lead,ts];simp [ht]);rw[ht] at p6;have t0:(0:Int)≤(t:Int):=by omega
  have t1:(t:Int)<(x.cells.length:Int):=by omega
  clear h r2 m0 ht hs;go_enter Tryz.func123,Tryz.ntmps123;go_wp2_with fail;refine(unhide QF _ x1).mono ?_;rintro e w1 ⟨rfl,hq⟩;rw[Nat.zero_add];have x2:=x1.trans hq;have m1':=x2.keep m1;have p0':=x2.keep p0;have p6':=x2.keep p6;have d13:=x2.keep n13;clear m1 p0 n13 p6;go_wp2_with fail;go_quiet (fail);go_wp2_with fail;go_ret;exact⟨by rw[unhide L];rfl,x2.drewN _⟩
theorem sword_any(bn o:Nat)(pl:Int)(w:World)(m0:w.cell? ⟨bn,o,none⟩=some (iv pl)):
  Calls Tryz.prog 319 #[.pointer (some ⟨bn,o,none⟩)] w fun e w'=>e=.returned (.agg #[iv 2,iv 0,iv pl])∧Ext w w':=by
 have hb:bn<w.heap.size:=cell_lt m0;go_enter Tryz.func319,Tryz.ntmps319;go_wp2_with fail;refine bodyPost_ret (v:=.agg #[iv 2,iv 0,iv pl]) (by simp [results,Tryz.results319,go_sem]) rfl ⟨rfl,?_⟩
 repeat (first | refine Ext.setCell ?_ (Nat.le_refl _) _ | exact(Ext.refl w).alloc _)
theorem sres_num(y:Wd)(b:Nat)(w:World)(k2:(y.k == 2)=false):
  Calls Tryz.prog 324 #[.pointer (some ⟨b,0,none⟩),y.v] w fun e w'=>e=.returned y.v∧Ext w w':=by
 have x1:=((Ext.refl w).alloc (.cells #[iv y.k,iv y.n,iv y.a] 152)).alloc (.cells #[iv 0,iv 0,iv 0] 152);go_enter Tryz.func324,Tryz.ntmps324;go_wp2_with fail;refine(follow_none y b _ k2).mono ?_;rintro e w1 ⟨rfl,hq⟩;have x2:=x1.trans hq;have z1:w.heap.size+1<w1.heap.size:=by have:=hq.size;simp at this;omega
 have z0:w.heap.size<w1.heap.size:=by omega
 have hc1:=(bcell hq).1;have hf1:=(bcell hq).2;have v0:=hq.keep (b:=w.heap.size) (o:=0) (v:=iv y.k) (by simp [go_sem]);have v1:=hq.keep (b:=w.heap.size) (o:=1) (v:=iv y.n) (by simp [go_sem]);have v2:=hq.keep (b:=w.heap.size) (o:=2) (v:=iv y.a) (by simp [go_sem]);have r0:=hq.keep (b:=w.heap.size+1) (o:=0) (v:=iv 0) (by simp [go_sem]);have r1:=hq.keep (b:=w.heap.size+1) (o:=1) (v:=iv 0) (by simp [go_sem]);have r2:=hq.keep (b:=w.heap.size+1) (o:=2) (v:=iv 0) (by simp [go_sem]);clear hq;go_wp2_with fail;refine bodyPost_ret (v:=y.v) (by simp [results,Tryz.results324,go_sem,r0,r1,r2]) rfl ⟨rfl,?_⟩
 repeat (first | refine Ext.setCell ?_ (by show w.heap.size≤w.heap.size+1;omega) _ | exact x2)
theorem sres_at[Inhabited ProtD]{B:Nat}{w:World}{b:Nat}{x:Hp}{ar:Option Addr}{kr:Nat}{v4 v8:Value}{br bn:Nat}{cB cO:Nat→Nat}{pb:Nat→Nat}{pa:Nat→Option Addr}{pk:Nat→Nat}{kn hd:Nat}{vf:Value}{F:List Int}{vk:Value}{K:List Nat}{role:Nat→Nat}(h:SAt B w b x ar kr v4 v8 br cB cO bn pb pa pk kn hd vf F vk K role)(q2:R2 x)(i:Nat)(hi:i<x.cells.length):
  Calls Tryz.prog 324 #[.pointer (some ⟨b,0,none⟩),.agg #[iv 2,iv 0,iv i]] w fun e w'=>e=.returned (.agg #[iv 2,iv 0,iv (lead x i)])∧Ext w w':=by
 have x1:=((Ext.refl w).alloc (.cells #[iv 2,iv 0,iv i] 152)).alloc (.cells #[iv 0,iv 0,iv 0] 152);have HV:=hide h;have M0:=hide (h.sb.nd (lead x i) (slead_lt q2 i hi)).1;clear h;go_enter Tryz.func324,Tryz.ntmps324;go_wp2_with fail;refine(sfollow_some ((unhide HV).ext x1) q2 i hi).mono ?_;rintro e w1 ⟨rfl,hq⟩;have x2:=x1.trans hq;have QH:=hide hq;clear hq;go_wp2_with fail;refine(sword_any bn (lead x i*2) (lead x i) _ (x2.keep (unhide M0))).mono ?_;rintro e w2 ⟨rfl,hq2⟩;have x3:=x2.trans hq2;have hq:=(unhide QH).trans hq2;have z1:w.heap.size+1<w2.heap.size:=by have:=hq.size;simp at this;omega
 have hc1:=(bcell hq).1;have hf1:=(bcell hq).2;have r0:=hq.keep (b:=w.heap.size+1) (o:=0) (v:=iv 0) (by simp [go_sem]);have r1:=hq.keep (b:=w.heap.size+1) (o:=1) (v:=iv 0) (by simp [go_sem]);have r2:=hq.keep (b:=w.heap.size+1) (o:=2) (v:=iv 0) (by simp [go_sem]);clear hq hq2;go_wp2_with fail;refine bodyPost_ret (v:=.agg #[iv 2,iv 0,iv (lead x i)]) (by simp [results,Tryz.results324,go_sem,r0,r1,r2]) rfl ⟨rfl,?_⟩
 repeat (first | refine Ext.setCell ?_ (by show w.heap.size≤w.heap.size+1;omega) _ | exact x3)
theorem sres_any[Inhabited ProtD]{B:Nat}{w:World}{b:Nat}{x:Hp}{ar:Option Addr}{kr:Nat}{v4 v8:Value}{br bn:Nat}{cB cO:Nat→Nat}{pb:Nat→Nat}{pa:Nat→Option Addr}{pk:Nat→Nat}{kn hd:Nat}{vf:Value}{F:List Int}{vk:Value}{K:List Nat}{role:Nat→Nat}(h:SAt B w b x ar kr v4 v8 br cB cO bn pb pa pk kn hd vf F vk K role)(q2:R2 x)(y:Wd)(hy:Formed y x.cells.length):
  Calls Tryz.prog 324 #[.pointer (some ⟨b,0,none⟩),y.v] w fun e w'=>e=.returned (resW x y).v∧Ext w w':=by
 cases q:(y.k == 2)
 ·have e:resW x y=y:=by
   unfold resW;rw[if_neg];intro h;simp [h.1] at q
  rw[e];exact sres_num y b w q
 ·have hk:y.k=2:=by simpa using q
  obtain⟨k,n,a⟩:=y;simp only at hk;subst hk;unfold Formed at hy;simp only at hy;obtain⟨i,rfl⟩:∃i:Nat,a=(i:Int):=⟨a.toNat,by omega⟩;obtain rfl:n=0:=by omega
  have hi:i<x.cells.length:=by omega
  have ei:((i:Int)).toNat=i:=by omega
  have e:resW x ⟨2,0,i⟩=⟨2,0,lead x i⟩:=by
   unfold resW lead;simp only [ei];by_cases h2:(x.c i).st=2
   ·have ht:0≤(x.c i).to:=by
     have:=q2.1 i hi;unfold CellOk MovedOk at this;omega
    have et:(((x.c i).to.toNat:Nat):Int)=(x.c i).to:=by omega
    rw[if_pos ⟨trivial,h2⟩,if_pos (by simpa using h2),et]
   ·rw[if_neg (fun h=>h2 h.2),if_neg (by simpa using h2)]
  rw[e];exact sres_at h q2 i hi
def cellW(w:World)(b o:Nat)(c:Cl)(v:Value):World:=(((((((w.setCell ⟨b,o,none⟩ (iv c.st)).setCell ⟨b,o+1,none⟩ (iv c.kind)).setCell ⟨b,o+2,none⟩ (iv c.weak)).setCell ⟨b,o+3,none⟩ (iv c.last)).setCell ⟨b,o+4,none⟩ (iv c.born)).setCell ⟨b,o+5,none⟩ (iv c.color)).setCell ⟨b,o+6,none⟩ (iv c.to)).setCell ⟨b,o+7,none⟩ v
theorem cellW_drew(w:World)(b o:Nat)(c:Cl)(v:Value):(cellW w b o c v).drew=cellW w.drew b o c v:=by
 have key:∀(W:World) (p:Addr) (u:Value),(W.setCell p u).drew=W.drew.setCell p u:=fun _ _ _=>rfl
 unfold cellW;simp only [key]
theorem cellW_only(w:World)(b o:Nat)(c:Cl)(v:Value):Only (fun q=>q=b) w (cellW w b o c v):=
 Only.setCell (S:=fun q=>q=b) (Only.setCell (S:=fun q=>q=b) (Only.setCell (S:=fun q=>q=b) (Only.setCell (S:=fun q=>q=b) (Only.setCell (S:=fun q=>q=b) (Only.setCell (S:=fun q=>q=b) (Only.setCell (S:=fun q=>q=b) (Only.setCell (S:=fun q=>q=b) (Only.refl _ w) (p:=⟨b,o,none⟩) rfl _) (p:=⟨b,o+1,none⟩) rfl _) (p:=⟨b,o+2,none⟩) rfl _) (p:=⟨b,o+3,none⟩) rfl _) (p:=⟨b,o+4,none⟩) rfl _) (p:=⟨b,o+5,none⟩) rfl _) (p:=⟨b,o+6,none⟩) rfl _) (p:=⟨b,o+7,none⟩) rfl _
theorem cellW_nf{w:World}{b:Nat}(h:Nf1 b w)(o:Nat)(c:Cl)(v:Value):Nf1 b (cellW w b o c v):=(((((((h.set _ _).set _ _).set _ _).set _ _).set _ _).set _ _).set _ _).set _ _
theorem cellW_other(w:World)(b o:Nat)(c:Cl)(v:Value)(k:Nat)(hk:k<o∨o+8≤k):(cellW w b o c v).cell? ⟨b,k,none⟩=w.cell? ⟨b,k,none⟩:=by
 unfold cellW
 iterate 8 rw[cell_other _ (.inr (by omega))]
theorem cellW_same(w:World)(b o:Nat)(c d:Cl)(v u:Value)(h:S7 w b o d)(h7:w.cell? ⟨b,o+7,none⟩=some u):S7 (cellW w b o c v) b o c∧(cellW w b o c v).cell? ⟨b,o+7,none⟩=some v:=by
 obtain⟨a0,a1,a2,a3,a4,a5,a6⟩:=h;unfold cellW;refine⟨⟨?_,?_,?_,?_,?_,?_,?_⟩,?_⟩
 ·iterate 7 rw[cell_other _ (.inr (by omega))]
  exact cs_same a0
 ·iterate 6 rw[cell_other _ (.inr (by omega))]
  exact cs_same ((cell_other _ (.inr (by omega))).trans a1)
 ·iterate 5 rw[cell_other _ (.inr (by omega))]
  refine cs_same (u:=iv d.weak) ?_
  iterate 2 rw[cell_other _ (.inr (by omega))]
  exact a2
 ·iterate 4 rw[cell_other _ (.inr (by omega))]
  refine cs_same (u:=iv d.last) ?_
  iterate 3 rw[cell_other _ (.inr (by omega))]
  exact a3
 ·iterate 3 rw[cell_other _ (.inr (by omega))]
  refine cs_same (u:=iv d.born) ?_
  iterate 4 rw[cell_other _ (.inr (by omega))]
  exact a4
 ·iterate 2 rw[cell_other _ (.inr (by omega))]
  refine cs_same (u:=iv d.color) ?_
  iterate 5 rw[cell_other _ (.inr (by omega))]
  exact a5
 ·rw[cell_other _ (.inr (by omega))];refine cs_same (u:=iv d.to) ?_
  iterate 6 rw[cell_other _ (.inr (by omega))]
  exact a6
 ·refine cs_same (u:=u) ?_
  iterate 7 rw[cell_other _ (.inr (by omega))]
  exact h7
def mvdH(x:Hp)(t f:Nat):Hp:={ x with cells:=(x.cells.set t (x.c f)).set f (mvC t) }
theorem mvd_c(x:Hp)(t f:Nat)(ht:t<x.cells.length)(hf:f<x.cells.length)(q:Nat):(mvdH x t f).c q=if q=f then mvC t else if q=t then x.c f else x.c q:=by
 have h1:=Hp.c_set { x with cells:=x.cells.set t (x.c f) } f (mvC t) (by simpa using hf) q;have h2:=Hp.c_set x t (x.c f) ht q;have e:mvdH x t f={ ({ x with cells:=x.cells.set t (x.c f) }:Hp) with cells:=({ x with cells:=x.cells.set t (x.c f) }:Hp).cells.set f (mvC t) }:=rfl;rw[e,h1];by_cases e1:q=f
 ·rw[if_pos e1,if_pos e1]
 ·rw[if_neg e1,if_neg e1];exact h2
def wordO(w:World)(b o:Nat)(y:Wd):World:=((w.setCell ⟨b,o,none⟩ (iv y.k)).setCell ⟨b,o+1,none⟩ (iv y.n)).setCell ⟨b,o+2,none⟩ (iv y.a)
theorem wordO_at(w:World)(b o:Nat)(y z:Wd)(h:WdAt w b o z):WdAt (wordO w b o y) b o y:=by
 obtain⟨h0,h1,h2⟩:=h;unfold wordO;refine⟨?_,?_,?_⟩
 ·iterate 2 rw[cell_other _ (.inr (by omega))]
  exact cs_same h0
 ·rw[cell_other _ (.inr (by omega))];exact cs_same ((cell_other _ (.inr (by omega))).trans h1)
 ·refine cs_same (u:=iv z.a) ?_
  iterate 2 rw[cell_other _ (.inr (by omega))]
  exact h2
theorem wordO_only(w:World)(b o:Nat)(y:Wd):Only (fun q=>q=b) w (wordO w b o y):=
 Only.setCell (S:=fun q=>q=b) (Only.setCell (S:=fun q=>q=b) (Only.setCell (S:=fun q=>q=b) (Only.refl _ w) (p:=⟨b,o,none⟩) rfl _) (p:=⟨b,o+1,none⟩) rfl _) (p:=⟨b,o+2,none⟩) rfl _
theorem wordO_nf{w:World}{b:Nat}(h:Nf1 b w)(o:Nat)(y:Wd):Nf1 b (wordO w b o y):=((h.set _ _).set _ _).set _ _
theorem wordO_other(w:World)(b o:Nat)(y:Wd)(k:Nat)(hk:k<o∨o+3≤k):(wordO w b o y).cell? ⟨b,k,none⟩=w.cell? ⟨b,k,none⟩:=by
 unfold wordO
 iterate 3 rw[cell_other _ (.inr (by omega))]
theorem SAt.drop[Inhabited ProtD]{B:Nat}{w:World}{b:Nat}{x:Hp}{ar:Option Addr}{kr:Nat}{v4 v8:Value}{br bn:Nat}{cB cO:Nat→Nat}{pb:Nat→Nat}{pa:Nat→Option Addr}{pk:Nat→Nat}{kn hd:Nat}{vf:Value}{F:List Int}{vk:Value}{K:List Nat}{role:Nat→Nat}(h:SAt B w b x ar kr v4 v8 br cB cO bn pb pa pk kn hd vf F vk K role)(i:Nat)(hi:i+1=x.cells.length):
  SAt B (w.setCell ⟨b,13,none⟩ (.slice (some ⟨bn,0,none⟩) i kn)) b { x with cells:=x.cells.take i } ar kr v4 v8 br cB cO bn pb pa pk kn hd vf F vk K role:=by
 have far:∀q,q<w.heap.size→role q≠0→(w.setCell ⟨b,13,none⟩ (.slice (some ⟨bn,0,none⟩) i kn)).heap[q]?=w.heap[q]?:=fun q hq hn=>Below.heap_setCell _ _ _ _ (fun e=>hn (by rw[e];exact h.sp.b))
 have hsz:w.heap.size≤(w.setCell ⟨b,13,none⟩ (.slice (some ⟨bn,0,none⟩) i kn)).heap.size:=by simp [World.setCell]
 have rw2:=h.rw.same (w':=w.setCell ⟨b,13,none⟩ (.slice (some ⟨bn,0,none⟩) i kn)) hsz (fun hl=>far br (h.rw.nr hl).1.1 (by rw[h.sp.r hl];omega)) (fun q hq=>far (cB q) (h.rw.nc q hq).1.1 (by rw[h.sp.c q hq];omega)) (fun q hq hl=>far (pb q) (h.rw.pl q hq hl).2.1.1 (by rw[h.sp.p q hq hl];omega));have hl:({ x with cells:=x.cells.take i }:Hp).cells.length=i:=by simp;omega
 have hc:∀q,q<i→({ x with cells:=x.cells.take i }:Hp).c q=x.c q:=fun q hq=>by
  simp only [Hp.c,List.getD_eq_getElem?_getD,List.getElem?_take_of_lt hq]
 have cb:∀o,o≠13→(w.setCell ⟨b,13,none⟩ (.slice (some ⟨bn,0,none⟩) i kn)).cell? ⟨b,o,none⟩=w.cell? ⟨b,o,none⟩:=fun o ho=>cell_other _ (.inr (fun e=>ho e.symm))
 have fn:=far bn h.sb.lo.2.2.1 (by rw[h.sp.n];omega);refine⟨⟨h.sb.bx.of fun o ho=>cb o (by omega),h.sb.ha,?_,fun k hk=>?_,⟨(cb 14 (by omega)).trans h.sb.fr.hd,(h.sb.nb.set _ _).2 14,ownsRow_of_block h.sb.fr.own (fun q hq=>far q (h.sb.fr.own.lt q hq).2 (by rw[h.sp.f q hq];omega)),h.sb.fr.apart⟩,h.sb.rg.of fun o h1 _=>cb o (by omega),(cb 4017 (by omega)).trans h.sb.k0,ownsRow_of_block h.sb.kp (fun q hq=>far q (h.sb.kp.lt q hq).2 (by rw[h.sp.k q hq];omega)),h.sb.nb.set _ _,⟨h.sb.lo.1,h.sb.lo.2.1,h.sb.lo.2.2.of fn hsz⟩⟩,⟨rw2.r,fun q hq=>?_,fun q hq=>?_,fun q hq k hk=>?_,fun q hq hlq=>?_,rw2.nr,fun q hq=>rw2.nc q (by rw[hl] at hq;omega),fun q hq=>rw2.d q (by rw[hl] at hq;omega),fun q q' hq hq' hne h1 h2=>?_,fun q q' hq hq' hne=>rw2.dc q q' (by rw[hl] at hq;omega) (by rw[hl] at hq';omega) hne,fun q hq=>by rw[hl] at hq;rw[hc q hq];exact rw2.kp q (by omega)⟩,⟨h.sp.b,h.sp.n,h.sp.r,fun q hq=>h.sp.c q (by rw[hl] at hq;omega),h.sp.f,h.sp.k,fun q hq hlq=>?_⟩,h.pr.of (fun q hq h1=>far q hq (by rw[h1];omega)) (fun _ _ h=>h)⟩
 ·rw[hl];exact World.cell?_setCell_same _ _ _ h.sb.n13
 ·rw[hl] at hk;exact⟨(World.cell?_of_block (a:=⟨bn,_,none⟩) fn).trans (h.sb.nd k (by omega)).1,(World.cell?_of_block (a:=⟨bn,_,none⟩) fn).trans (h.sb.nd k (by omega)).2⟩
 ·rw[hl] at hq;rw[hc q hq];exact rw2.s q (by omega)
 ·rw[hl] at hq;rw[hc q hq];exact rw2.p7 q (by omega)
 ·rw[hl] at hq;rw[hc q hq] at hk ⊢;exact rw2.p q (by omega) k hk
 ·rw[hl] at hq;have z:=rw2.pl q (by omega) hlq;exact⟨z.1,z.2.1,⟨z.2.2.1.1,fun j hj=>z.2.2.1.2 j (by rw[hl] at hj;omega)⟩,z.2.2.2⟩
 ·rw[hl] at hq hq';exact rw2.dp q q' (by omega) (by omega) hne h1 h2
 ·rw[hl] at hq;exact h.sp.p q (by omega) hlq
theorem SAt.setr[Inhabited ProtD]{B:Nat}{w w':World}{b:Nat}{x:Hp}{ar:Option Addr}{kr:Nat}{v4 v8:Value}{br bn:Nat}{cB cO:Nat→Nat}{pb:Nat→Nat}{pa:Nat→Option Addr}{pk:Nat→Nat}{kn hd:Nat}{vf:Value}{F:List Int}{vk:Value}{K:List Nat}{role:Nat→Nat}(h:SAt B w b x ar kr v4 v8 br cB cO bn pb pa pk kn hd vf F vk K role)(j:Nat)(hj:j<x.regs.length)(y:Wd)(o:Only (fun q=>q=br) w w')(nf:Nf1 br w')(hy:WdAt w' br (j*3) y)(ho:∀m,(m<j*3∨j*3+3≤m)→w'.cell? ⟨br,m,none⟩=w.cell? ⟨br,m,none⟩):
  SAt B w' b { x with regs:=x.regs.set j y } ar kr v4 v8 br cB cO bn pb pa pk kn hd vf F vk K role:=by
 have hr:0<x.regs.length:=by omega
 have far:∀q,q<w.heap.size→role q≠2→w'.heap[q]?=w.heap[q]?:=fun q hq hn=>o.block q hq (fun e=>hn (by rw[e];exact h.sp.r hr))
 have hl:({ x with regs:=x.regs.set j y }:Hp).regs.length=x.regs.length:=by simp
 have pf:∀q,q<x.cells.length→0<pk q→w'.heap[pb q]?=w.heap[pb q]?:=fun q hq hl=>far (pb q) (h.rw.pl q hq hl).2.1.1 (by rw[h.sp.p q hq hl];omega)
 have fc:∀q,q<x.cells.length→w'.heap[cB q]?=w.heap[cB q]?:=fun q hq=>far (cB q) (h.rw.nc q hq).1.1 (by rw[h.sp.c q hq];omega)
 have sb2:=h.sb.same o.size (far b h.sb.nb.1 (by rw[h.sp.b];omega)) (far bn h.sb.lo.2.2.1 (by rw[h.sp.n];omega)) (fun q hq=>far q (h.sb.fr.own.lt q hq).2 (by rw[h.sp.f q hq];omega)) (fun q hq=>far q (h.sb.kp.lt q hq).2 (by rw[h.sp.k q hq];omega));refine⟨⟨by rw[hl];exact sb2.bx,fun _=>sb2.ha hr,sb2.n13,sb2.nd,sb2.fr,sb2.rg,sb2.k0,sb2.kp,sb2.nb,sb2.lo⟩,⟨fun m hm=>?_,fun q hq=>?_,fun q hq=>?_,fun q hq k hk=>?_,fun q hq hlq=>?_,fun _=>⟨nf,(h.rw.nr hr).2⟩,fun q hq=>⟨nf1_block (h.rw.nc q hq).1 (fc q hq) o.size,(h.rw.nc q hq).2⟩,h.rw.d,h.rw.dp,h.rw.dc,h.rw.kp⟩,⟨h.sp.b,h.sp.n,fun _=>h.sp.r hr,h.sp.c,h.sp.f,h.sp.k,h.sp.p⟩,h.pr.of (fun q hq h1=>far q hq (by rw[h1];omega)) (fun _ _ h=>h)⟩
 ·have hm2:m<x.regs.length:=by rw[hl] at hm;exact hm
  by_cases e:m=j
  ·subst e;have:({ x with regs:=x.regs.set m y }:Hp).regs[m]=y:=by simp
   rw[this];exact hy
  ·have hjm:j≠m:=fun e'=>e e'.symm
   have:({ x with regs:=x.regs.set j y }:Hp).regs[m]=x.regs[m]:=by simp [List.getElem_set_ne hjm]
   rw[this];exact(h.rw.r m hm2).of fun k hk=>ho _ (by omega)
 ·exact(h.rw.s q hq).of fun m _=>World.cell?_of_block (a:=⟨cB q,_,none⟩) (fc q hq)
 ·exact(World.cell?_of_block (a:=⟨cB q,_,none⟩) (fc q hq)).trans (h.rw.p7 q hq)
 ·have hk2:k<(x.c q).prs.length:=hk;exact(h.rw.p q hq k hk).of fun m _=>World.cell?_of_block (a:=⟨pb q,_,none⟩) (pf q hq (h.rw.pw hq (by omega)))
 ·obtain⟨a1,a2,a3⟩:=h.rw.pl q hq hlq;exact⟨a1,nfp_block a2 (pf q hq hlq) o.size,a3⟩
def BxAt(w:World)(B bs:Nat)(v:Value)(wk:Int):Prop:=w.cell? ⟨B,2,none⟩=some (iv wk)∧B≠bs∧v.ownBlock≠some B
theorem BxAt.ext{w w':World}{B bs:Nat}{v:Value}{wk:Int}(h:BxAt w B bs v wk)(e:Ext w w'):BxAt w' B bs v wk:=⟨e.keep h.1,h.2⟩
theorem Mfr.apart{bs:Nat}{v v':Value}{w w':World}(m:Mfr bs v v' w w'){B:Nat}(hB:B<w.heap.size)(hv:v.ownBlock≠some B):v'.ownBlock≠some B:=fun e=>by
 rcases m.own with q | ⟨g,q,hg⟩
 ·rw[q] at e;exact hv e
 ·rw[q] at e;cases e;omega
structure PBx(w:World)(B bs:Nat)(v:Value)(p:Pr):Prop where
 c:w.cell? ⟨B,0,none⟩=some (.int .i64 p.key.k)∧w.cell? ⟨B,1,none⟩=some (.int .i64 p.key.n)∧w.cell? ⟨B,2,none⟩=some (.int .i64 p.key.a)∧w.cell? ⟨B,3,none⟩=some (.int .i64 p.val.k)∧w.cell? ⟨B,4,none⟩=some (.int .i64 p.val.n)∧w.cell? ⟨B,5,none⟩=some (.int .i64 p.val.a)
 n:B≠bs
 o:v.ownBlock≠some B
theorem PBx.ext{w w':World}{B bs:Nat}{v:Value}{p:Pr}(h:PBx w B bs v p)(e:Ext w w'):PBx w' B bs v p:=⟨⟨e.keep h.c.1,e.keep h.c.2.1,e.keep h.c.2.2.1,e.keep h.c.2.2.2.1,e.keep h.c.2.2.2.2.1,e.keep h.c.2.2.2.2.2⟩,h.n,h.o⟩
theorem PairsH.more{x:Hp}{L0:List Int}{j p:Nat}{T:List Int}(h:PairsH x L0 j p T)(hk:SK (x.c j)→((x.c j).p p).key.k=2→(tgt x ((x.c j).p p).key:Int)∈T)(hv:SV (x.c j)→(((x.c j).p p).key.k=2→(tgt x ((x.c j).p p).key:Int)∈L0)→((x.c j).p p).val.k=2→(tgt x ((x.c j).p p).val:Int)∈T):PairsH x L0 j (p+1) T:=fun q hq=>by
 by_cases e:q=p
 ·subst e;exact⟨hk,hv⟩
 ·exact h q (by omega)
theorem Pass.val{x:Hp}{L:List Int}{c j p:Nat}{T T8:List Int}(h:Pass x L c T∧it T c=(j:Int)∧c<T.length∧PairsH x L j p T∧(SK (x.c j)→((x.c j).p p).key.k=2→(tgt x ((x.c j).p p).key:Int)∈T))(a:Add x ((x.c j).p p).val T T8)(hy:((x.c j).p p).val.k=2→Held x (tgt x ((x.c j).p p).val)):Pass x L c T8∧it T8 c=(j:Int)∧c<T8.length∧PairsH x L j (p+1) T8:=by
 obtain⟨i1,i2,i3,i4,i5⟩:=h;obtain⟨R,r⟩:=a.pre;have l5:T.length≤T8.length:=by rw[r];simp
 refine⟨i1.add a (by omega) hy,?_,by omega,(i4.mono (fun z hz=>a.sub hz)).more (fun s e=>a.sub (i5 s e)) (fun _ _ e=>a.has e)⟩;rw[r,it_pre i3];exact i2
def Wd0:Wd:=⟨0,0,0⟩
def Hp.r(x:Hp)(i:Nat):Wd:=x.regs.getD i Wd0
theorem Hp.r_eq(x:Hp)(i:Nat)(h:i<x.regs.length):x.regs[i]=x.r i:=by simp [Hp.r,h]
def Hp.at(x:Hp)(i:Nat):Nat:=(x.r i).a.toNat
def keyC(c:Cl)(k:Nat)(y:Wd):Cl:={ c with prs:=c.prs.set k ⟨y,(c.p k).val⟩ }
def valC(c:Cl)(k:Nat)(y:Wd):Cl:={ c with prs:=c.prs.set k ⟨(c.p k).key,y⟩ }
def setcH(x:Hp)(i:Nat)(c:Cl):Hp:={ x with cells:=x.cells.set i c }
def shortC(c:Cl)(n:Nat):Cl:={ c with prs:=c.prs.take n }
def shortH(x:Hp)(i n:Nat):Hp:={ x with cells:=x.cells.set i (shortC (x.c i) n),used:=x.used-((x.c i).prs.length-n:Nat),sub:=if scanI x=(i:Int)∧(n:Int)<x.sub then n else x.sub }
def weakC(c:Cl)(n:Int):Cl:={ c with weak:=n }
def lastC(c:Cl)(n:Int):Cl:={ c with last:=n }
def HalfIs(x:Hp)(f c:Nat)(y:Hp)(cd nm:Int)(R:Nat→Prop):Prop:=
 ((x.r f).k≠2∧y=x∧cd=2∧nm=0)∨((x.r f).k=2∧(x.c (x.at f)).prs.length≤c∧y=x∧cd=3∧nm=0)∨((x.r f).k=2∧c<(x.c (x.at f)).prs.length∧R (x.at f)∧cd=0∧nm=0)
def CellIs(x:Hp)(f:Nat)(y:Hp)(cd nm:Int)(R:Nat→Prop):Prop:=((x.r f).k≠2∧y=x∧cd=2∧nm=0)∨((x.r f).k=2∧R (x.at f))
def MakeIs(x:Hp)(a b c:Nat)(y:Hp)(cd nm:Int):Prop:=nm=0∧
 ((x.born=1000000000∧y=x∧cd=4)∨(x.born≠1000000000∧∃z,RoomIs x (1+c) z∧((fitsB z (1+c)=false∧y=z∧cd=4)∨(fitsB z (1+c)=true∧cd=0∧PaceIs (regTo (makeH z b c) a ⟨2,0,fstFree z⟩) (1+c) y))))
def GrowIs(x:Hp)(a c i:Nat)(y:Hp)(cd nm:Int):Prop:=nm=0∧
 ((200<(x.c i).prs.length+c∧y=x∧cd=5)∨((x.c i).prs.length+c≤200∧∃z,RoomIs x c z∧((fitsB z c=false∧y=z∧cd=4)∨(fitsB z c=true∧cd=0∧PaceIs (growH z (z.at a) c) c y))))
def wdB(a b:Wd):Bool:=a.k == b.k && (a.n == b.n && a.a == b.a)
def SumIs(x:Hp)(P:Nat→Prop)(nm:Int):Prop:=∃p:Nat→Bool,(∀i,p i=true↔P i)∧nm=(sumTo x p x.cells.length:Nat)
def TellIs(x:Hp)(a:Nat)(y:Hp)(nm:Int):Prop:=(DueTo x x.cells.length (-1)∧y=regTo x a Wd0∧nm=0)∨∃i:Nat,DueTo x x.cells.length (i:Int)∧y=regTo (setcH x i (lastC (x.c i) 3)) a ⟨2,0,i⟩∧nm=1
def DoR(x:Hp)(a b c:Nat)(n:Int)(y:Hp)(cd nm:Int):Nat→Prop
 | 1=>MakeIs x a b c y cd nm
 | 2=>y=regTo x a ⟨1,n,0⟩∧cd=0∧nm=0
 | 3=>y=regTo x a Wd0∧cd=0∧nm=0
 | 4=>y=regTo x a (x.r b)∧cd=0∧nm=0
 | 5=>HalfIs x b c y cd nm fun i=>y=regTo x a (resW x ((x.c i).p c).key)
 | 6=>HalfIs x b c y cd nm fun i=>y=regTo x a (resW x ((x.c i).p c).val)
 | 7=>HalfIs x a c y cd nm fun i=>y=shadeW (setcH x i (keyC (x.c i) c (x.r b))) (x.r b)
 | 8=>HalfIs x a c y cd nm fun i=>y=shadeW (setcH x i (valC (x.c i) c (x.r b))) (x.r b)
 | 9=>CellIs x a y cd nm fun i=>GrowIs x a c i y cd nm
 | 10=>CellIs x a y cd nm fun i=>y=shortH x i c∧cd=0∧nm=0
 | 11=>CellIs x a y cd nm fun i=>y=setcH x i (weakC (x.c i) c)∧cd=0∧nm=0
 | 12=>CellIs x a y cd nm fun i=>y=(if c=1 then shadeH (setcH x i (lastC (x.c i) c)) i else setcH x i (lastC (x.c i) c))∧cd=0∧nm=0
 | 13=>y=x∧cd=0∧nm=if wdB (x.r a) (x.r b)=true then 1 else 0
 | 14=>y=x∧cd=0∧nm=(x.r a).k
 | 15=>y=x∧(((x.r a).k≠1∧cd=2∧nm=0)∨((x.r a).k=1∧cd=0∧nm=(x.r a).n))
 | 16=>CellIs x a y cd nm fun i=>y=x∧cd=0∧nm=(x.c i).kind
 | 17=>CellIs x a y cd nm fun i=>y=x∧cd=0∧nm=((x.c i).prs.length:Nat)
 | 18=>cd=0∧∃H:Nat→Bool,(∀i,H i=true↔Held x i)∧y=settleH x H∧nm=(dueN x H x.cells.length:Nat)
 | 19=>cd=0∧TellIs x a y nm
 | 20=>y=x∧cd=0∧SumIs x (Held x) nm
 | 21=>y=x∧cd=0∧SumIs x (Reached x) nm
 | 22=>cd=0∧nm=0∧∃k,StepIs (stepH x c) c k∧y=itU k (stepH x c)
 | 23=>y=paceTo x b c∧cd=0∧nm=0
 | 24=>cd=0∧nm=0∧RdIs x y
 | _=>False
def DoIs(x:Hp)(op a b c n:Int)(y:Hp)(cd nm:Int):Prop:=(actOkB op a b c n=false∧y=x∧cd=1∧nm=0)∨(actOkB op a b c n=true∧DoR x a.toNat b.toNat c.toNat n y cd nm op.toNat)
structure Ovr(x y:Hp)(φ:Nat→Nat):Prop where
 rl:y.regs.length=x.regs.length
 rg:∀k (h:k<x.regs.length) (h':k<y.regs.length),y.regs[k].k=x.regs[k].k∧(x.regs[k].k=2→tgt y y.regs[k] = φ (tgt x x.regs[k]))
 g:∀i,Good x i→(y.c (φ i)).st=1∧φ i<y.cells.length∧(y.c (φ i)).last=(x.c i).last∧(y.c (φ i)).prs.length=(x.c i).prs.length
 ky:∀i p,Good x i→p<(x.c i).prs.length→((y.c (φ i)).p p).key.k=((x.c i).p p).key.k∧(((x.c i).p p).key.k=2→tgt y ((y.c (φ i)).p p).key = φ (tgt x ((x.c i).p p).key))
 vl:∀i p,Good x i→p<(x.c i).prs.length→((y.c (φ i)).p p).val.k=((x.c i).p p).val.k∧(((x.c i).p p).val.k=2→tgt y ((y.c (φ i)).p p).val = φ (tgt x ((x.c i).p p).val))
 b:∀j,Good y j→∃i,Good x i∧j = φ i
 wk:∀i,Good x i→(y.c (φ i)).weak=(x.c i).weak
 ij:∀i j,Good x i→Good x j→φ i = φ j→i=j
theorem Ovr.to{x y:Hp}{φ:Nat→Nat}(o:Ovr x y φ)(s:Snd x){i:Nat}(h:Reached x i):Reached y (φ i):=by
 have:=h (fun i=>Good x i∧Reached y (φ i)) (fun k hk e=>⟨(may_reg s.r2 s.r4 k hk e).2.2.2.2,?_⟩) (fun i hi hs sp=>?_) (fun j p hj hp e=>⟨((may_pair s.r2 s.r4 j p hj.1 hp).1 e).2.2.2.2,?_⟩) (fun j p hj hp e=>⟨((may_pair s.r2 s.r4 j p hj.1 hp).2 e).2.2.2.2,?_⟩)
 ·exact this.2
 ·have h':k<y.regs.length:=by rw[o.rl];exact hk
  have r:=o.rg k hk h';rw[←r.2 e];exact Reached.reg k h' (by rw[r.1];exact e)
 ·have gd:=good_want s.r4 i hi hs sp;have r:=o.g i gd;exact⟨gd,Reached.last _ r.2.1 r.1 (by unfold Speaks at sp ⊢;rw[r.2.2.1];exact sp)⟩
 ·have r:=o.ky j p hj.1 hp;rw[←r.2 e];exact Reached.key _ p hj.2 (by rw[(o.g j hj.1).2.2.2];exact hp) (by rw[r.1];exact e)
 ·have r:=o.vl j p hj.1 hp;rw[←r.2 e];exact Reached.val _ p hj.2 (by rw[(o.g j hj.1).2.2.2];exact hp) (by rw[r.1];exact e)
theorem Ovr.from{x y:Hp}{φ:Nat→Nat}(o:Ovr x y φ)(s:Snd x)(t:Snd y){j:Nat}(h:Reached y j):∃i,Reached x i∧j = φ i:=by
 refine h (fun j=>∃i,Reached x i∧j = φ i) (fun k hk e=>?_) (fun j hj hs sp=>?_) (fun j p hj hp e=>?_) (fun j p hj hp e=>?_)
 ·have h':k<x.regs.length:=by rw[←o.rl];exact hk
  have r:=o.rg k h' hk;rw[r.1] at e;exact⟨_,Reached.reg k h' e,r.2 e⟩
 ·obtain⟨i,gi,rfl⟩:=o.b j (good_want t.r4 j hj hs sp);have r:=o.g i gi;exact⟨i,Reached.last i gi.1 gi.2.1 (by unfold Speaks at sp ⊢;rw[←r.2.2.1];exact sp),rfl⟩
 ·obtain⟨i,ri,rfl⟩:=hj;have gi:=Reached.good s.r2 s.r4 ri;rw[(o.g i gi).2.2.2] at hp;have r:=o.ky i p gi hp;rw[r.1] at e;exact⟨_,Reached.key i p ri hp e,r.2 e⟩
 ·obtain⟨i,ri,rfl⟩:=hj;have gi:=Reached.good s.r2 s.r4 ri;rw[(o.g i gi).2.2.2] at hp;have r:=o.vl i p gi hp;rw[r.1] at e;exact⟨_,Reached.val i p ri hp e,r.2 e⟩
def Kept(x:Hp):Prop:=∀i,Good x i→Reached x i
theorem Ovr.kept{x y:Hp}{φ:Nat→Nat}(o:Ovr x y φ)(s:Snd x)(k:Kept x):Kept y:=fun j gj=>by
 obtain⟨i,gi,rfl⟩:=o.b j gj;exact o.to s (k i gi)
def S0(F:Nat→Nat):Nat→Nat
 | 0=>0
 | k+1=>S0 F k+F k
theorem S0_sum(x:Hp)(p:Nat→Bool):∀k,sumTo x p k=S0 (fun i=>if p i then 1+(x.c i).prs.length else 0) k
 | 0=>rfl
 | k+1=>by unfold sumTo S0;rw[S0_sum x p k]
theorem S0_congr{F G:Nat→Nat}:∀k,(∀i,i<k→F i=G i)→S0 F k=S0 G k
 | 0,_=>rfl
 | k+1,h=>by unfold S0;rw[S0_congr k (fun i hi=>h i (by omega)),h k (by omega)]
end Go.Proofs.YtddkhnclmeikfaaGreat
