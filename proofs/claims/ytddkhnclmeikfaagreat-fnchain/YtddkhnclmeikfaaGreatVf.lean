import Derived.Test.YtddkhnclmeikfaaGreatImpR
import Derived.Test.YtddkhnclmeikfaaGreatAg
import Derived.OwnWalk
namespace Go.Proofs.YtddkhnclmeikfaaGreat
open Go.RowKit
attribute [local go_sem ↓] Go.wp_at_zero Go.wp_at_succ
theorem GAt.setp[Inhabited ProtD]{B:Nat}{w w':World}{g:Nat}{x:Hp}{ar:Option Addr}{kr:Nat}{ac:Option Addr}{kc:Nat}{vg:Value}{br bc:Nat}{pb:Nat→Nat}{pa:Nat→Option Addr}{pk:Nat→Nat}{role:Nat→Nat}(h:GAt B w g x ar kr ac kc vg br bc pb pa pk role)(i:Nat)(hi:i<x.cells.length)(k:Nat)(hk:k<(x.c i).prs.length)(p':Pr)(o:Only (fun q=>q=pb i) w w')(nf:Nf1 (pb i) w')(hp:PrAt w' (pb i) (k*6) p')(ho:∀j,(j<k*6∨k*6+6≤j)→w'.cell? ⟨pb i,j,none⟩=w.cell? ⟨pb i,j,none⟩):
  GAt B w' g { x with cells:=x.cells.set i { x.c i with prs:=(x.c i).prs.set k p' } } ar kr ac kc vg br bc pb pa pk role:=by
 have hl0:0<(x.c i).prs.length:=by omega
 have ri:=h.sp.p i hi (h.rw.pw hi hl0);have far:∀q,q<w.heap.size→role q≠6+i→w'.heap[q]?=w.heap[q]?:=fun q hq hr=>o.block q hq (fun e=>hr (by rw[e];exact ri))
 have hn:0<x.cells.length:=by omega
 have hl:({ x with cells:=x.cells.set i { x.c i with prs:=(x.c i).prs.set k p' } }:Hp).cells.length=x.cells.length:=by simp
 have hc:=Hp.c_set x i { x.c i with prs:=(x.c i).prs.set k p' } hi;have hne:∀q,q≠i→(({ x with cells:=x.cells.set i { x.c i with prs:=(x.c i).prs.set k p' } }:Hp).c q)=x.c q:=fun q e=>by rw[hc q,if_neg e]
 have hei:(({ x with cells:=x.cells.set i { x.c i with prs:=(x.c i).prs.set k p' } }:Hp).c i)={ x.c i with prs:=(x.c i).prs.set k p' }:=by rw[hc i,if_pos rfl]
 have hpl:∀q,(({ x with cells:=x.cells.set i { x.c i with prs:=(x.c i).prs.set k p' } }:Hp).c q).prs.length=(x.c q).prs.length:=fun q=>by
  by_cases e:q=i
  ·rw[e,hei];simp
  ·rw[hne q e]
 have fg:=far g h.nf.1 (by rw[h.sp.g];omega);have fc:=far bc (h.rw.nc hn).1.1 (by rw[h.sp.c hn];omega);have pf:∀q,q<x.cells.length→q≠i→0<pk q→w'.heap[pb q]?=w.heap[pb q]?:=fun q hq hqi hl=>far (pb q) (h.rw.pl q hq hl).2.1.1 (by rw[h.sp.p q hq hl];omega)
 refine⟨?_,nf1_block h.nf fg o.size,h.lo,h.ha,fun _=>h.hc hn,⟨fun j hj=>?_,fun q hq=>?_,fun q hq=>?_,fun q hq j hj=>?_,fun q hq hlq=>?_,fun hr=>⟨nf1_block (h.rw.nr hr).1 (far br (h.rw.nr hr).1.1 (by rw[h.sp.r hr];omega)) o.size,(h.rw.nr hr).2⟩,fun _=>⟨nf1_block (h.rw.nc hn).1 fc o.size,(h.rw.nc hn).2⟩,fun _=>h.rw.d hn,fun q q' hq hq' hne h1 h2=>?_,fun q hq=>?_⟩,h.gr.block (fun q hq=>far q (h.gr.lt q hq).2 (by rw[h.sp.y q hq];omega)),⟨h.sp.g,h.sp.r,fun _=>h.sp.c hn,h.sp.y,fun q hq hlq=>?_⟩,by rw[hl];exact h.kl,h.pr.of (fun q hq h1=>far q hq (by rw[h1];omega)) (fun _ _ h=>h),fun hk=>(h.cc hk).block rfl (far bc (h.cc hk).nf.1 (by rw[(h.cc hk).ro];omega)) o.size⟩
 ·rw[hl];exact(h.bx.block fg)
 ·exact(h.rw.r j hj).of fun m _=>World.cell?_of_block (a:=⟨br,_,none⟩) (far br (h.rw.nr (by have:j<x.regs.length:=hj;omega)).1.1 (by rw[h.sp.r (by have:j<x.regs.length:=hj;omega)];omega))
 ·rw[hl] at hq;have key:S7 w' bc (q*8) (x.c q):=(h.rw.s q hq).of fun m _=>World.cell?_of_block (a:=⟨bc,_,none⟩) fc
  by_cases e:q=i
  ·subst e;rw[hei];exact key
  ·rw[hne q e];exact key
 ·rw[hl] at hq;rw[hpl q,World.cell?_of_block (a:=⟨bc,_,none⟩) fc];exact h.rw.p7 q hq
 ·rw[hl] at hq;rw[hpl q] at hj;by_cases e:q=i
  ·subst e;rw[hei];by_cases ej:j=k
   ·subst ej;have:({ x.c q with prs:=(x.c q).prs.set j p' }:Cl).p j=p':=by simp [Cl.p,hj]
    rw[this];exact hp
   ·have:({ x.c q with prs:=(x.c q).prs.set k p' }:Cl).p j=(x.c q).p j:=by
     have hkj:k≠j:=fun e=>ej e.symm
     simp [Cl.p,List.getElem?_set_ne hkj]
    rw[this];exact(h.rw.p q hq j hj).of fun m hm=>ho _ (by omega)
  ·rw[hne q e];exact(h.rw.p q hq j hj).of fun m _=>World.cell?_of_block (a:=⟨pb q,_,none⟩) (pf q hq e (h.rw.pw hq (by omega)))
 ·rw[hl] at hq;obtain⟨a1,a2,a3⟩:=h.rw.pl q hq hlq;by_cases e:q=i
  ·subst e;exact⟨a1,nfp_pair a2 nf hp ho,a3⟩
  ·exact⟨a1,nfp_block a2 (pf q hq e hlq) o.size,a3⟩
 ·rw[hl] at hq hq';exact h.rw.dp q q' hq hq' hne h1 h2
 ·rw[hl] at hq;rw[hpl q];exact h.rw.kp q hq
 ·rw[hl] at hq;exact h.sp.p q hq hlq
def lead2(x:Hp)(i:Nat):Nat:=if ((x.c i).st == 2)=true then (x.c i).to.toNat else i
structure Sn(w:World)(base bs n:Nat)(v:Value)(L:List Int):Prop where
 hb:base≤bs∧bs<w.heap.size
 s:∀i,i<n→w.cell? ⟨bs,i,none⟩=some (.bool (decide ((i:Int)∈L)))
 f:∀i,i<n→w.frozen? ⟨bs,i,none⟩=false
 own:w.ownsRow base 3 1 v L.length (L.map iv)
 ap:v.ownBlock≠some bs
 nd:L.Nodup
 rg:∀z,z∈L→0≤z∧z<n
theorem Sn.ext{w w':World}{base bs n:Nat}{v:Value}{L:List Int}(h:Sn w base bs n v L)(e:Ext w w'):Sn w' base bs n v L:=
 ⟨⟨h.hb.1,Nat.lt_of_lt_of_le h.hb.2 e.size⟩,fun i hi=>e.keep (h.s i hi),fun i hi=>by rw[e.frozen (p:=⟨bs,i,none⟩) h.hb.2];exact h.f i hi,ownsRow_of_block h.own (fun k hk=>e.block k (h.own.lt k hk).2),h.ap,h.nd,h.rg⟩
theorem Sn.len{w:World}{base bs n:Nat}{v:Value}{L:List Int}(h:Sn w base bs n v L):L.length≤n:=by
 have hs:∀z,z∈L→z∈(List.range n).map (fun i:Nat=>(i:Int)):=fun z hz=>by
  have:=h.rg z hz;exact List.mem_map.2 ⟨z.toNat,by simp;omega,by omega⟩
 have:=List.Nodup.length_le_of_subset h.nd hs
 simpa using this
structure Mfr(bs:Nat)(v v':Value)(w w':World):Prop where
 os:w'.os=w.os
 tape:w'.tape=w.tape
 output:w'.output=w.output
 size:w.heap.size≤w'.heap.size
 block:∀k:Nat,k<w.heap.size→k≠bs→v.ownBlock≠some k→w'.heap[k]?=w.heap[k]?
 own:v'.ownBlock=v.ownBlock∨∃g,v'.ownBlock=some g∧w.heap.size≤g
theorem Mfr.of_ext{bs:Nat}{v:Value}{w w':World}(e:Ext w w'):Mfr bs v v w w':=⟨e.os,e.tape,e.output,e.size,fun k hk _ _=>e.block k hk,.inl rfl⟩
theorem Mfr.ext{a:World}{bs:Nat}{v v':Value}{w w':World}(q:Mfr bs v v' w w')(e:Ext a w)(hb:a.heap.size≤bs)(hv:∀k,v.ownBlock=some k→a.heap.size≤k):Ext a w':=
 Below.trans e ⟨q.os,q.tape,q.output,q.size,fun k hk=>q.block k (Nat.lt_of_lt_of_le hk e.size) (by omega) (fun h=>by have:=hv k h;omega)⟩
theorem Sn.add{w W w2:World}{base bs n:Nat}{v:Value}{L:List Int}{j g cap:Nat}(h:Sn w base bs n v L)(hj:j<n)(hn:¬(j:Int)∈L)(hW:Ext (w.setCell ⟨bs,j,none⟩ (.bool true)) W)
  (hown:w2.ownsRow base 3 1 (.slice (some ⟨g,0,none⟩) (L.length+1) cap) (L.length+1) (L.map iv++[iv j])) (hg:W.grownBy w2 v.ownBlock) (hat:v.ownBlock=some g∨g=W.heap.size) :
  Sn w2 base bs n (.slice (some ⟨g,0,none⟩) (L.length+1) cap) (L++[(j:Int)])∧Mfr bs v (.slice (some ⟨g,0,none⟩) (L.length+1) cap) w w2:=by
 have hs0:w.heap.size≤W.heap.size:=by have:=hW.size;simpa using this
 have hs1:W.heap.size≤w2.heap.size:=hg.size
 have hgb:g≠bs:=by
  rcases hat with e | e
  ·intro q;exact h.ap (q ▸ e)
  ·have:=h.hb.2;omega
 have blk:∀k:Nat,k<w.heap.size→v.ownBlock≠some k→w2.heap[k]?=(w.setCell ⟨bs,j,none⟩ (.bool true)).heap[k]?:=fun k hk hv=>
  (hg.block k (by omega) (fun e=>hv e.symm)).trans (hW.block k (by simpa using hk))
 have hbs:=blk bs h.hb.2 h.ap;refine⟨⟨⟨h.hb.1,by have:=h.hb.2;omega⟩,fun i hi=>?_,fun i hi=>?_,by simpa using hown,fun e=>hgb (by simpa [Value.ownBlock] using e),?_,fun z hz=>?_⟩,⟨hg.os.trans hW.os,hg.tape.trans hW.tape,hg.output.trans hW.output,by omega,fun k hk h1 h2=>?_,?_⟩⟩
 ·rw[World.cell?_of_block (w:=w.setCell ⟨bs,j,none⟩ (.bool true)) (a:=⟨bs,i,none⟩) hbs];by_cases e:i=j
  ·subst e;rw[World.cell?_setCell_same _ _ _ (h.s i hi)];simp
  ·rw[cell_other _ (.inr (fun q=>e q.symm)),h.s i hi];simp only [List.mem_append,List.mem_singleton]
   congr 2
   exact decide_eq_decide.2 ⟨fun q=>.inl q,fun q=>by rcases q with q | q;exact q;omega⟩
 ·rw[World.frozen?_of_block (w:=w.setCell ⟨bs,j,none⟩ (.bool true)) (a:=⟨bs,i,none⟩) hbs,World.frozen?_setCell];exact h.f i hi
 ·rw[List.nodup_append];exact⟨h.nd,by simp,fun a ha b hb=>by simp at hb;rw[hb];intro e;exact hn (e ▸ ha)⟩
 ·rcases List.mem_append.1 hz with q | q
  ·exact h.rg z q
  ·simp at q;omega
 ·rw[blk k hk h2,Below.heap_setCell _ _ _ _ (show k≠bs from h1)]
 ·rcases hat with e | e
  ·exact .inl (by rw[e];rfl)
  ·exact .inr ⟨g,rfl,by omega⟩
def tgt(x:Hp)(y:Wd):Nat:=lead2 x y.a.toNat
def Reached(x:Hp)(i:Nat):Prop:=∀P:Nat→Prop,(∀k (h:k<x.regs.length),x.regs[k].k=2→P (tgt x x.regs[k]))→(∀i,i<x.cells.length→(x.c i).st=1→Speaks (x.c i)→P i)→
 (∀j p,P j→p<(x.c j).prs.length→((x.c j).p p).key.k=2→P (tgt x ((x.c j).p p).key))→(∀j p,P j→p<(x.c j).prs.length→((x.c j).p p).val.k=2→P (tgt x ((x.c j).p p).val))→P i
theorem Reached.reg{x:Hp}(k:Nat)(h:k<x.regs.length)(hk:x.regs[k].k=2):Reached x (tgt x x.regs[k]):=fun _ a _ _ _=>a k h hk
theorem Reached.last{x:Hp}(i:Nat)(hi:i<x.cells.length)(hs:(x.c i).st=1)(h:Speaks (x.c i)):Reached x i:=fun _ _ b _ _=>b i hi hs h
theorem Reached.key{x:Hp}(j p:Nat)(h:Reached x j)(hp:p<(x.c j).prs.length)(hk:((x.c j).p p).key.k=2):Reached x (tgt x ((x.c j).p p).key):=fun P a b c d=>c j p (h P a b c d) hp hk
theorem Reached.val{x:Hp}(j p:Nat)(h:Reached x j)(hp:p<(x.c j).prs.length)(hk:((x.c j).p p).val.k=2):Reached x (tgt x ((x.c j).p p).val):=fun P a b c d=>d j p (h P a b c d) hp hk
def Good(x:Hp)(i:Nat):Prop:=i<x.cells.length∧(x.c i).st=1∧¬Doomed x i
def MayMark(x:Hp)(y:Wd):Prop:=y.k=2→y.n=0∧0≤y.a∧y.a<x.cells.length∧((x.c y.a.toNat).st=2→0≤(x.c y.a.toNat).to)∧Good x (tgt x y)
theorem Leads.may{x:Hp}{y:Wd}{m:Prop}(h:Leads x y m)(r2:R2 x):MayMark x y:=fun hk=>by
 have hf:=h.1;unfold Formed at hf;have hr:y.n=0∧0≤y.a∧y.a<x.cells.length:=by omega
 refine⟨hr.1,hr.2.1,hr.2.2,fun h2=>?_,?_⟩
 ·have:=r2.1 y.a.toNat (by omega);unfold CellOk MovedOk at this;omega
 ·rcases h.2 hk with⟨h1,_⟩ | ⟨h1,h3⟩
  ·have hc:=r2.1 y.a.toNat (by omega);unfold CellOk at hc;rcases hc with hc | hc | hc
   ·omega
   ·have hm:=hc.2;unfold MovedOk at hm;have e:tgt x y=(x.c y.a.toNat).to.toNat:=by unfold tgt lead2;rw[if_pos (by simp [h1])]
    rw[e];exact⟨by omega,hm.2.2.2.2.1,fun d=>by have:=d.1;omega⟩
   ·omega
  ·have e:tgt x y=y.a.toNat:=by unfold tgt lead2;rw[if_neg (by simp [h1])]
   rw[e];exact⟨by omega,h1,h3⟩
theorem may_reg{x:Hp}(r2:R2 x)(r4:R4 x)(k:Nat)(h:k<x.regs.length):MayMark x x.regs[k]:=(r4.1 k h).may r2
theorem may_pair{x:Hp}(r2:R2 x)(r4:R4 x)(j p:Nat)(hj:Good x j)(hp:p<(x.c j).prs.length):MayMark x ((x.c j).p p).key∧MayMark x ((x.c j).p p).val:=by
 have:=((r4.2 j hj.1).2 p hp).2 hj.2.2;exact⟨this.1.may r2,this.2.may r2⟩
theorem good_want{x:Hp}(r4:R4 x)(i:Nat)(hi:i<x.cells.length)(hs:(x.c i).st=1)(h:Speaks (x.c i)):Good x i:=⟨hi,hs,fun d=>(r4.2 i hi).1 ⟨d,h⟩⟩
theorem Reached.good{x:Hp}(r2:R2 x)(r4:R4 x){i:Nat}(h:Reached x i):Good x i:=by
 exact h (Good x) (fun k h hk=>(may_reg r2 r4 k h hk).2.2.2.2) (fun i hi hs h=>good_want r4 i hi hs h) (fun j p ih hp hk=>((may_pair r2 r4 j p ih hp).1 hk).2.2.2.2) (fun j p ih hp hk=>((may_pair r2 r4 j p ih hp).2 hk).2.2.2.2)
def Add(x:Hp)(y:Wd)(L L':List Int):Prop:=(y.k≠2∧L'=L)∨(y.k=2∧(((tgt x y:Int)∈L∧L'=L)∨(¬(tgt x y:Int)∈L∧L'=L++[(tgt x y:Int)])))
theorem Add.pre{x:Hp}{y:Wd}{L L':List Int}(h:Add x y L L'):∃R,L'=L++R:=by
 rcases h with⟨_,e⟩ | ⟨_,⟨_,e⟩ | ⟨_,e⟩⟩
 ·exact⟨[],by simp [e]⟩
 ·exact⟨[],by simp [e]⟩
 ·exact⟨_,e⟩
theorem Add.sub{x:Hp}{y:Wd}{L L':List Int}(h:Add x y L L'){z:Int}(hz:z∈L):z∈L':=by
 obtain⟨R,e⟩:=h.pre;rw[e];exact List.mem_append_left _ hz
theorem Add.has{x:Hp}{y:Wd}{L L':List Int}(h:Add x y L L')(hk:y.k=2):(tgt x y:Int)∈L':=by
 rcases h with⟨n,_⟩ | ⟨_,⟨m,e⟩ | ⟨_,e⟩⟩
 ·exact(n hk).elim
 ·rw[e];exact m
 ·rw[e];simp
theorem Add.new{x:Hp}{y:Wd}{L L':List Int}(h:Add x y L L'){z:Int}(hz:z∈L'):z∈L∨(y.k=2∧z=(tgt x y:Int)):=by
 rcases h with⟨_,e⟩ | ⟨k,⟨_,e⟩ | ⟨_,e⟩⟩
 ·rw[e] at hz;exact .inl hz
 ·rw[e] at hz;exact .inl hz
 ·rw[e] at hz;rcases List.mem_append.1 hz with q | q
  ·exact .inl q
  ·exact .inr ⟨k,by simpa using q⟩
theorem reached_of{x:Hp}{L:List Int}(hr:∀z,z∈L→∃i:Nat,z=(i:Int)∧Reached x i)(h1:∀k (h:k<x.regs.length),x.regs[k].k=2→(tgt x x.regs[k]:Int)∈L)(h2:∀i,i<x.cells.length→(x.c i).st=1→Speaks (x.c i)→(i:Int)∈L)
  (h3:∀j:Nat,(j:Int)∈L→∀p,p<(x.c j).prs.length→(((x.c j).p p).key.k=2→(tgt x ((x.c j).p p).key:Int)∈L)∧(((x.c j).p p).val.k=2→(tgt x ((x.c j).p p).val:Int)∈L)) (i:Nat):(i:Int)∈L↔Reached x i:=by
 constructor
 ·intro h;obtain⟨j,e,hj⟩:=hr _ h;have:i=j:=by omega
  rw[this];exact hj
 ·intro h;exact h (fun i=>(i:Int)∈L) h1 h2 (fun j p ih hp hk=>(h3 j ih p hp).1 hk) (fun j p ih hp hk=>(h3 j ih p hp).2 hk)
structure Rw1(w:World)(base:Nat)(v:Value)(M:List Int):Prop where
 own:w.ownsRow base 3 1 v M.length (M.map iv)
theorem Rw1.ext{w w':World}{base:Nat}{v:Value}{M:List Int}(h:Rw1 w base v M)(e:Ext w w'):Rw1 w' base v M:=⟨ownsRow_of_block h.own (fun k hk=>e.block k (h.own.lt k hk).2)⟩
theorem Rw1.cell{w:World}{base g n cap:Nat}{M:List Int}(h:Rw1 w base (.slice (some ⟨g,0,none⟩) n cap) M)(i:Nat)(hi:i<M.length):w.cell? ⟨g,i,none⟩=some (iv (it M i))∧w.frozen? ⟨g,i,none⟩=false∧n=M.length:=by
 rcases h.own.2 with⟨h0,_⟩ | ⟨g',cap',cur,h0,hb,hg,hr⟩
 ·cases h0
 ·cases h0;have:=World.ownsRow.cellAt (w:=w) (base:=base) (e:=3) (size:=1) (g:=g) (n:=M.length) (cap:=cap) (xs:=M.map iv) h.own i (by omega);exact⟨by rw[this];simp [it,hi],World.ownsRow.frozenAt (w:=w) (base:=base) (e:=3) (size:=1) (g:=g) (n:=M.length) (cap:=cap) (xs:=M.map iv) h.own i,rfl⟩
theorem Sn.start(w:World)(n:Nat)(t:TypeId):Sn (w.alloc (.cells (madeCells #[.bool false] n) t)) w.heap.size w.heap.size n (.slice none 0 0) []:=by
 have e:(w.alloc (.cells (madeCells #[.bool false] n) t)).heap[w.heap.size]?=some (.cells (madeCells #[.bool false] n) t):=heap_alloc_new w _;refine⟨⟨Nat.le_refl _,by simp⟩,fun i hi=>?_,fun i hi=>(made_open w _ n t i hi).2,World.ownsRow_nil _ _ _ _,by simp [Value.ownBlock],List.nodup_nil,fun z hz=>by cases hz⟩;rw[cell_of_row _ w.heap.size i _ _ (0,0) e,←Array.getElem?_toList,toList_madeCells_one];simp [hi]
def OnlyR(x:Hp)(L:List Int):Prop:=∀z,z∈L→∃i:Nat,z=(i:Int)∧Reached x i
def RegsIn(x:Hp)(k:Nat)(L:List Int):Prop:=∀j (h:j<x.regs.length),j<k→x.regs[j].k=2→(tgt x x.regs[j]:Int)∈L
def PairsIn(x:Hp)(j k:Nat)(L:List Int):Prop:=∀p,p<k→(((x.c j).p p).key.k=2→(tgt x ((x.c j).p p).key:Int)∈L)∧(((x.c j).p p).val.k=2→(tgt x ((x.c j).p p).val:Int)∈L)
def ClosedTo(x:Hp)(i:Nat)(L:List Int):Prop:=∀q,q<i→PairsIn x (it L q).toNat (x.c (it L q).toNat).prs.length L
theorem OnlyR.add{x:Hp}{y:Wd}{L L':List Int}(h:OnlyR x L)(a:Add x y L L')(hy:y.k=2→Reached x (tgt x y)):OnlyR x L':=fun z hz=>by
 rcases a.new hz with q | ⟨k,e⟩
 ·exact h z q
 ·exact⟨_,e,hy k⟩
theorem it_pre{L R:List Int}{q:Nat}(h:q<L.length):it (L++R) q=it L q:=by unfold it;simp [List.getElem?_append_left h]
theorem PairsIn.mono{x:Hp}{j k:Nat}{L L':List Int}(h:PairsIn x j k L)(s:∀z,z∈L→z∈L'):PairsIn x j k L':=fun p hp=>⟨fun e=>s _ ((h p hp).1 e),fun e=>s _ ((h p hp).2 e)⟩
theorem ClosedTo.add{x:Hp}{y:Wd}{i:Nat}{L L':List Int}(h:ClosedTo x i L)(a:Add x y L L')(hi:i≤L.length):ClosedTo x i L':=fun q hq=>by
 obtain⟨R,e⟩:=a.pre;have hs:∀z,z∈L→z∈L':=fun z hz=>a.sub hz
 have e2:it L' q=it L q:=by rw[e];exact it_pre (by omega)
 rw[e2];exact(h q hq).mono hs
def WIn(x:Hp)(L:List Int):Prop:=∀i,i<x.cells.length→(x.c i).st=1→Speaks (x.c i)→(i:Int)∈L
structure Gone(x:Hp)(i:Nat)(L:List Int):Prop where
 o:OnlyR x L
 r:RegsIn x x.regs.length L
 w:WIn x L
 c:ClosedTo x i L
theorem Gone.add{x:Hp}{y:Wd}{i:Nat}{L L':List Int}(h:Gone x i L)(a:Add x y L L')(hi:i≤L.length)(hy:y.k=2→Reached x (tgt x y)):Gone x i L':=
 ⟨h.o.add a hy,fun j hj hk e=>a.sub (h.r j hj hk e),fun j hj e1 e2=>a.sub (h.w j hj e1 e2),h.c.add a hi⟩
theorem Gone.done{x:Hp}{L:List Int}(h:Gone x L.length L):∀i:Nat,(i:Int)∈L↔Reached x i:=
 reached_of h.o (fun k hk e=>h.r k hk hk e) h.w (fun j hj=>by
  obtain⟨q,hq,e⟩:=List.getElem_of_mem hj;have:=h.c q hq;rw[←it_eq L q hq,e] at this;have t2:PairsIn x j (x.c j).prs.length L:=by simpa using this
  exact t2)
theorem Gone.step{x:Hp}{i j:Nat}{L:List Int}(h:Gone x i L)(e:it L i=(j:Int))(hp:PairsIn x j (x.c j).prs.length L):Gone x (i+1) L:=
 ⟨h.o,h.r,h.w,fun q hq=>by
  by_cases k:q=i
  ·rw[k,e];simpa using hp
  ·exact h.c q (by omega)⟩
def SK(c:Cl):Prop:=c.weak≠1∧c.weak≠3
def SV(c:Cl):Prop:=c.weak≠2∧c.weak≠3
def Held(x:Hp)(i:Nat):Prop:=∀P:Nat→Prop,(∀k (h:k<x.regs.length),x.regs[k].k=2→P (tgt x x.regs[k]))→(∀i,i<x.cells.length→(x.c i).last=2→P i)→
 (∀j p,P j→p<(x.c j).prs.length→SK (x.c j)→((x.c j).p p).key.k=2→P (tgt x ((x.c j).p p).key))→
 (∀j p,P j→p<(x.c j).prs.length→SV (x.c j)→(((x.c j).p p).key.k=2→P (tgt x ((x.c j).p p).key))→((x.c j).p p).val.k=2→P (tgt x ((x.c j).p p).val))→P i
theorem Held.reg{x:Hp}(k:Nat)(h:k<x.regs.length)(hk:x.regs[k].k=2):Held x (tgt x x.regs[k]):=fun _ a _ _ _=>a k h hk
theorem Held.due{x:Hp}(i:Nat)(hi:i<x.cells.length)(h:(x.c i).last=2):Held x i:=fun _ _ b _ _=>b i hi h
theorem Held.key{x:Hp}(j p:Nat)(h:Held x j)(hp:p<(x.c j).prs.length)(hs:SK (x.c j))(hk:((x.c j).p p).key.k=2):Held x (tgt x ((x.c j).p p).key):=fun P a b c d=>c j p (h P a b c d) hp hs hk
theorem Held.val{x:Hp}(j p:Nat)(h:Held x j)(hp:p<(x.c j).prs.length)(hs:SV (x.c j))(hh:((x.c j).p p).key.k=2→Held x (tgt x ((x.c j).p p).key))(hk:((x.c j).p p).val.k=2):Held x (tgt x ((x.c j).p p).val):=fun P a b c d=>d j p (h P a b c d) hp hs (fun e=>hh e P a b c d) hk
theorem Held.reached{x:Hp}(r2:R2 x){i:Nat}(h:Held x i):Reached x i:=
 h (Reached x) (fun k h hk=>Reached.reg k h hk) (fun i hi hl=>Reached.last i hi (speaks_used r2 i hi (.inr hl)) (.inr hl)) (fun j p ih hp _ hk=>Reached.key j p ih hp hk) (fun j p ih hp _ _ hk=>Reached.val j p ih hp hk)
theorem Held.good{x:Hp}(r2:R2 x)(r4:R4 x){i:Nat}(h:Held x i):Good x i:=(h.reached r2).good r2 r4
def OnlyH(x:Hp)(L:List Int):Prop:=∀z,z∈L→∃i:Nat,z=(i:Int)∧Held x i
theorem OnlyH.add{x:Hp}{y:Wd}{L L':List Int}(h:OnlyH x L)(a:Add x y L L')(hy:y.k=2→Held x (tgt x y)):OnlyH x L':=fun z hz=>by
 rcases a.new hz with q | ⟨k,e⟩
 ·exact h z q
 ·exact⟨_,e,hy k⟩
def DueIn(x:Hp)(k:Nat)(L:List Int):Prop:=∀i,i<k→i<x.cells.length→(x.c i).last=2→(i:Int)∈L
def PairsH(x:Hp)(L0:List Int)(j k:Nat)(T:List Int):Prop:=∀p,p<k→(SK (x.c j)→((x.c j).p p).key.k=2→(tgt x ((x.c j).p p).key:Int)∈T)∧(SV (x.c j)→(((x.c j).p p).key.k=2→(tgt x ((x.c j).p p).key:Int)∈L0)→((x.c j).p p).val.k=2→(tgt x ((x.c j).p p).val:Int)∈T)
theorem PairsH.mono{x:Hp}{L0:List Int}{j k:Nat}{T T':List Int}(h:PairsH x L0 j k T)(s:∀z,z∈T→z∈T'):PairsH x L0 j k T':=fun p hp=>⟨fun a e=>s _ ((h p hp).1 a e),fun a b e=>s _ ((h p hp).2 a b e)⟩
def ClH(x:Hp)(L0:List Int)(c:Nat)(T:List Int):Prop:=∀q,q<c→PairsH x L0 (it T q).toNat (x.c (it T q).toNat).prs.length T
theorem ClH.add{x:Hp}{L0:List Int}{y:Wd}{c:Nat}{T T':List Int}(h:ClH x L0 c T)(a:Add x y T T')(hc:c≤T.length):ClH x L0 c T':=fun q hq=>by
 obtain⟨R,e⟩:=a.pre;have e2:it T' q=it T q:=by rw[e];exact it_pre (by omega)
 rw[e2];exact(h q hq).mono (fun z hz=>a.sub hz)
structure Pass(x:Hp)(L0:List Int)(c:Nat)(T:List Int):Prop where
 o:OnlyH x T
 r:RegsIn x x.regs.length T
 d:DueIn x x.cells.length T
 e:∃R,T=L0++R
 c:ClH x L0 c T
theorem Pass.add{x:Hp}{L0:List Int}{y:Wd}{c:Nat}{T T':List Int}(h:Pass x L0 c T)(a:Add x y T T')(hc:c≤T.length)(hy:y.k=2→Held x (tgt x y)):Pass x L0 c T':=
 ⟨h.o.add a hy,fun j hj hk e=>a.sub (h.r j hj hk e),fun i hi hn e=>a.sub (h.d i hi hn e),by
  obtain⟨R,e⟩:=h.e;obtain⟨R',e'⟩:=a.pre;exact⟨R++R',by rw[e',e,List.append_assoc]⟩,h.c.add a hc⟩
theorem Pass.step{x:Hp}{L0:List Int}{c j:Nat}{T:List Int}(h:Pass x L0 c T)(e:it T c=(j:Int))(k:PairsH x L0 j (x.c j).prs.length T):Pass x L0 (c+1) T:=
 ⟨h.o,h.r,h.d,h.e,fun q hq=>by
  by_cases f:q=c
  ·subst f;rw[e];simpa using k
  ·exact h.c q (by omega)⟩
structure Rest(x:Hp)(n:Int)(L:List Int):Prop where
 o:OnlyH x L
 r:RegsIn x x.regs.length L
 d:DueIn x x.cells.length L
 b:-1≤n∧n≤L.length
 c:n=L.length→ClH x L L.length L
theorem Rest.begin{x:Hp}{n:Int}{L:List Int}(h:Rest x n L):Pass x L 0 L:=⟨h.o,h.r,h.d,⟨[],by simp⟩,fun q hq=>by omega⟩
theorem Pass.rest{x:Hp}{L0 T:List Int}(h:Pass x L0 T.length T):Rest x L0.length T:=by
 obtain⟨R,e⟩:=h.e;refine⟨h.o,h.r,h.d,⟨by omega,by rw[e];simp;omega⟩,fun f=>?_⟩
 have:R=[]:=by
  have:(T.length:Int)=L0.length+R.length:=by rw[e];simp
  exact List.length_eq_zero_iff.1 (by omega)
 have e2:T=L0:=by rw[e,this];simp
 have:=h.c;rw[←e2] at this;exact this
theorem Rest.done{x:Hp}{L:List Int}(h:Rest x L.length L)(i:Nat):(i:Int)∈L↔Held x i:=by
 constructor
 ·intro q;obtain⟨j,e,hj⟩:=h.o _ q;have:i=j:=by omega
  rw[this];exact hj
 ·intro q
  have cl:∀j:Nat,(j:Int)∈L→PairsH x L j (x.c j).prs.length L:=fun j hj=>by
   obtain⟨q,hq,e⟩:=List.getElem_of_mem hj;have:=h.c rfl q hq;rw[←it_eq L q hq,e] at this
   simpa using this
  exact q (fun i=>(i:Int)∈L) (fun k hk e=>h.r k hk hk e) (fun i hi e=>h.d i hi hi e) (fun j p ih hp hs hk=>(cl j ih p hp).1 hs hk) (fun j p ih hp hs hh hk=>(cl j ih p hp).2 hs hh hk)
def lostB(x:Hp)(H:Nat→Bool)(y:Wd):Bool:=(resW x y).k == 2 && !H (resW x y).a.toNat
def wkB(c:Cl):Bool:=c.weak == 1 || c.weak == 3
def wvB(c:Cl):Bool:=c.weak == 2 || c.weak == 3
def goB(x:Hp)(H:Nat→Bool)(c:Cl)(p:Pr):Bool:=(wkB c && lostB x H p.key) || (wvB c && lostB x H p.val)
def stay(x:Hp)(H:Nat→Bool)(c:Cl)(l:List Pr):List Pr:=l.filter (fun p=>!goB x H c p)
def goes(x:Hp)(H:Nat→Bool)(c:Cl)(l:List Pr):Nat:=(l.filter (fun p=>goB x H c p)).length
theorem stay_goes(x:Hp)(H:Nat→Bool)(c:Cl)(l:List Pr):(stay x H c l).length+goes x H c l=l.length:=by
 unfold stay goes
 induction l with
 | nil=>rfl
 | cons p l ih=>
  cases h:goB x H c p <;> simp [h] <;> omega
theorem goes_append(x:Hp)(H:Nat→Bool)(c:Cl)(a b:List Pr):goes x H c (a++b)=goes x H c a+goes x H c b:=by simp [goes]
def scanI(x:Hp):Int:=if x.phase=2∧0<x.gray.length then x.gray.getD 0 0 else if x.phase=5∧x.hand<x.cells.length then x.hand else -1
def letC(x:Hp)(H:Nat→Bool)(c:Cl):Cl:={ c with prs:=stay x H c c.prs }
def letSub(x:Hp)(H:Nat→Bool)(i:Nat)(s:Int):Int:=if scanI x=(i:Int) then s-goes x H (x.c i) ((x.c i).prs.take s.toNat) else s
def cutTo(x:Hp)(H:Nat→Bool):Nat→Hp
 | 0=>x
 | k+1=>if H k=true then { cutTo x H k with cells:=(cutTo x H k).cells.set k (letC x H (x.c k)),used:=(cutTo x H k).used-goes x H (x.c k) (x.c k).prs,sub:=letSub x H k (cutTo x H k).sub } else cutTo x H k
def goneTo(x:Hp)(H:Nat→Bool):Nat→Nat
 | 0=>0
 | k+1=>if H k=true then goneTo x H k+goes x H (x.c k) (x.c k).prs else goneTo x H k
def dueB(x:Hp)(H:Nat→Bool)(i:Nat):Bool:=!H i && (x.c i).last == 1
def dueC(c:Cl):Cl:={ c with last:=2 }
def dueTo(x z:Hp)(H:Nat→Bool):Nat→Hp
 | 0=>z
 | k+1=>if dueB x H k=true then { dueTo x z H k with cells:=(dueTo x z H k).cells.set k (dueC (x.c k)) } else dueTo x z H k
def dueN(x:Hp)(H:Nat→Bool):Nat→Nat
 | 0=>0
 | k+1=>if dueB x H k=true then dueN x H k+1 else dueN x H k
def settleH(x:Hp)(H:Nat→Bool):Hp:=dueTo x (cutTo x H x.cells.length) H x.cells.length
def stlC(x:Hp)(H:Nat→Bool)(i:Nat):Cl:=if H i=true then letC x H (x.c i) else if (x.c i).last=1 then dueC (x.c i) else x.c i
theorem cutTo_len(x:Hp)(H:Nat→Bool):∀k,(cutTo x H k).cells.length=x.cells.length
 | 0=>rfl
 | k+1=>by
  unfold cutTo
  split
  ·simp [cutTo_len x H k]
  ·exact cutTo_len x H k
theorem cutTo_c(x:Hp)(H:Nat→Bool):∀k,k≤x.cells.length→∀q,(cutTo x H k).c q=if q<k∧H q=true then letC x H (x.c q) else x.c q
 | 0,_,q=>by rw[if_neg (by omega)];rfl
 | k+1,hk,q=>by
  have ih:=cutTo_c x H k (by omega) q;unfold cutTo;by_cases h:H k=true
  ·rw[if_pos h];have:=Hp.c_set (cutTo x H k) k (letC x H (x.c k)) (by rw[cutTo_len];omega) q;have e:({ cutTo x H k with cells:=(cutTo x H k).cells.set k (letC x H (x.c k)),used:=(cutTo x H k).used-goes x H (x.c k) (x.c k).prs,sub:=letSub x H k (cutTo x H k).sub }:Hp).c q=({ cutTo x H k with cells:=(cutTo x H k).cells.set k (letC x H (x.c k)) }:Hp).c q:=rfl;rw[e,this];by_cases eq:q=k
   ·rw[if_pos eq,eq,if_pos ⟨by omega,h⟩]
   ·rw[if_neg eq,ih];by_cases h2:q<k∧H q=true
    ·rw[if_pos h2,if_pos ⟨by omega,h2.2⟩]
    ·rw[if_neg h2,if_neg (fun h3=>h2 ⟨by omega,h3.2⟩)]
  ·rw[if_neg h,ih];by_cases h2:q<k∧H q=true
   ·rw[if_pos h2,if_pos ⟨by omega,h2.2⟩]
   ·rw[if_neg h2,if_neg (fun h3=>by
     by_cases eq:q=k
     ·rw[eq] at h3;exact h h3.2
     ·exact h2 ⟨by omega,h3.2⟩)]
theorem goes_cons(x:Hp)(H:Nat→Bool)(c:Cl)(p:Pr)(l:List Pr):goes x H c (p::l)=if goB x H c p=true then goes x H c l+1 else goes x H c l:=by
 unfold goes;cases h:goB x H c p <;> simp [h]
theorem goes_le(x:Hp)(H:Nat→Bool)(c:Cl)(l:List Pr):goes x H c l≤l.length:=by
 have:=stay_goes x H c l;omega
theorem cutTo_sub(x:Hp)(H:Nat→Bool)(i:Nat)(e:scanI x=(i:Int)):∀k,k≤i→(cutTo x H k).sub=x.sub
 | 0,_=>rfl
 | k+1,hk=>by
  have ih:=cutTo_sub x H i e k (by omega);unfold cutTo
  split
  ·show letSub x H k (cutTo x H k).sub=x.sub;unfold letSub;rw[if_neg (by rw[e];omega)];exact ih
  ·exact ih
theorem goneTo_le(x:Hp)(H:Nat→Bool)(hp:∀i,i<x.cells.length→(x.c i).prs.length≤200):∀k,k≤x.cells.length→goneTo x H k≤200*k
 | 0,_=>Nat.le_refl _
 | k+1,hk=>by
  have ih:=goneTo_le x H hp k (by omega);have h1:=goes_le x H (x.c k) (x.c k).prs;have h2:=hp k (by omega);unfold goneTo
  split <;> omega
theorem cutTo_used(x:Hp)(H:Nat→Bool):∀k,(cutTo x H k).used=x.used-goneTo x H k
 | 0=>by simp [cutTo,goneTo]
 | k+1=>by
  have ih:=cutTo_used x H k;unfold cutTo goneTo
  split
  ·show(cutTo x H k).used-goes x H (x.c k) (x.c k).prs=_;rw[ih];omega
  ·exact ih
theorem dueTo_len(x z:Hp)(H:Nat→Bool):∀k,(dueTo x z H k).cells.length=z.cells.length
 | 0=>rfl
 | k+1=>by
  unfold dueTo
  split
  ·simp [dueTo_len x z H k]
  ·exact dueTo_len x z H k
theorem dueN_le(x:Hp)(H:Nat→Bool):∀k,dueN x H k≤k
 | 0=>Nat.le_refl _
 | k+1=>by
  have:=dueN_le x H k;unfold dueN
  split <;> omega
theorem scan_sub{x:Hp}(s:Snd x){i:Nat}(hi:i<x.cells.length)(h1:(x.c i).st=1)(e:scanI x=(i:Int)):0≤x.sub∧x.sub≤(x.c i).prs.length:=by
 refine⟨s.r1.sub.1,?_⟩;unfold scanI at e
 split at e
 ·rename_i h;have:=(s.r6.2.1 h.1).2.2 (by omega);have e2:x.g0=i:=by unfold Hp.g0;rw[e];simp
  rw[e2] at this;exact this
 ·split at e
  ·rename_i h;have e2:x.hand.toNat=i:=by omega
   have:=(s.r6.2.2.1 h.1).2;rw[e2] at this;exact this ⟨by omega,h1⟩
  ·omega
end Go.Proofs.YtddkhnclmeikfaaGreat
