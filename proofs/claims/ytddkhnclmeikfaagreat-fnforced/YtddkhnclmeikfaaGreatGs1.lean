import Derived.Test.YtddkhnclmeikfaaGreatLq
import Derived.Test.YtddkhnclmeikfaaGreatRc1
import Derived.Test.YtddkhnclmeikfaaGreatMk2
namespace Go.Proofs.YtddkhnclmeikfaaGreat
open Go.RowKit
attribute [local go_sem ↓] Go.wp_at_zero Go.wp_at_succ
def pairO(w:World)(b o:Nat)(p:Pr):World:=(((((w.setCell ⟨b,o,none⟩ (iv p.key.k)).setCell ⟨b,o+1,none⟩ (iv p.key.n)).setCell ⟨b,o+2,none⟩ (iv p.key.a)).setCell ⟨b,o+3,none⟩ (iv p.val.k)).setCell ⟨b,o+4,none⟩ (iv p.val.n)).setCell ⟨b,o+5,none⟩ (iv p.val.a)
theorem pairO_at(w:World)(b o:Nat)(p q:Pr)(h:PrAt w b o q):PrAt (pairO w b o p) b o p:=by
 obtain⟨h0,h1,h2,h3,h4,h5⟩:=h;unfold pairO;refine⟨?_,?_,?_,?_,?_,?_⟩
 ·iterate 5 rw[cell_other _ (.inr (by omega))]
  exact cs_same h0
 ·iterate 4 rw[cell_other _ (.inr (by omega))]
  refine cs_same (u:=iv q.key.n) ?_;rw[cell_other _ (.inr (by omega))];exact h1
 ·iterate 3 rw[cell_other _ (.inr (by omega))]
  refine cs_same (u:=iv q.key.a) ?_
  iterate 2 rw[cell_other _ (.inr (by omega))]
  exact h2
 ·iterate 2 rw[cell_other _ (.inr (by omega))]
  refine cs_same (u:=iv q.val.k) ?_
  iterate 3 rw[cell_other _ (.inr (by omega))]
  exact h3
 ·rw[cell_other _ (.inr (by omega))];refine cs_same (u:=iv q.val.n) ?_
  iterate 4 rw[cell_other _ (.inr (by omega))]
  exact h4
 ·refine cs_same (u:=iv q.val.a) ?_
  iterate 5 rw[cell_other _ (.inr (by omega))]
  exact h5
theorem pairO_only(w:World)(b o:Nat)(p:Pr):Only (fun q=>q=b) w (pairO w b o p):=
 Only.setCell (S:=fun q=>q=b) (Only.setCell (S:=fun q=>q=b) (Only.setCell (S:=fun q=>q=b) (Only.setCell (S:=fun q=>q=b) (Only.setCell (S:=fun q=>q=b) (Only.setCell (S:=fun q=>q=b) (Only.refl _ w) (p:=⟨b,o,none⟩) rfl _) (p:=⟨b,o+1,none⟩) rfl _) (p:=⟨b,o+2,none⟩) rfl _) (p:=⟨b,o+3,none⟩) rfl _) (p:=⟨b,o+4,none⟩) rfl _) (p:=⟨b,o+5,none⟩) rfl _
theorem pairO_nf{w:World}{b:Nat}(h:Nf1 b w)(o:Nat)(p:Pr):Nf1 b (pairO w b o p):=(((((h.set _ _).set _ _).set _ _).set _ _).set _ _).set _ _
theorem pairO_other(w:World)(b o:Nat)(p:Pr)(k:Nat)(hk:k<o∨o+6≤k):(pairO w b o p).cell? ⟨b,k,none⟩=w.cell? ⟨b,k,none⟩:=by
 unfold pairO
 iterate 6 rw[cell_other _ (.inr (by omega))]
theorem GAt.setc[Inhabited ProtD]{B:Nat}{w w':World}{g:Nat}{x:Hp}{ar:Option Addr}{kr:Nat}{ac:Option Addr}{kc:Nat}{vg:Value}{br bc:Nat}{pb:Nat→Nat}{pa:Nat→Option Addr}{pk:Nat→Nat}{role:Nat→Nat}{i:Nat}{c':Cl}(h:GAt B w g x ar kr ac kc vg br bc pb pa pk role)(hi:i<x.cells.length)(hp:c'.prs=(x.c i).prs)(o:Only (fun q=>q=bc) w w')(hs:S7 w' bc (i*8) c')(ho:∀k,(k<i*8∨i*8+7≤k)→w'.cell? ⟨bc,k,none⟩=w.cell? ⟨bc,k,none⟩)(nf:Nf1 bc w'):
  GAt B w' g { x with cells:=x.cells.set i c' } ar kr ac kc vg br bc pb pa pk role:=by
 have hn:0<x.cells.length:=by omega
 have far:∀q,q<w.heap.size→role q≠3→w'.heap[q]?=w.heap[q]?:=fun q hq hr=>o.block q hq (fun e=>hr (by rw[e];exact h.sp.c hn))
 have hl:({ x with cells:=x.cells.set i c' }:Hp).cells.length=x.cells.length:=by simp
 have hc:=Hp.c_set x i c' hi
 have hpr:∀q,(({ x with cells:=x.cells.set i c' }:Hp).c q).prs=(x.c q).prs:=fun q=>by
  rw[hc q];by_cases e:q=i
  ·rw[if_pos e,hp,e]
  ·rw[if_neg e]
 have fg:=far g h.nf.1 (by rw[h.sp.g];omega);have pf:∀q,q<x.cells.length→0<pk q→w'.heap[pb q]?=w.heap[pb q]?:=fun q hq hl=>far (pb q) (h.rw.pl q hq hl).2.1.1 (by rw[h.sp.p q hq hl];omega)
 refine⟨?_,nf1_block h.nf fg o.size,h.lo,h.ha,fun _=>h.hc hn,⟨fun k hk=>?_,fun q hq=>?_,fun q hq=>?_,fun q hq k hk=>?_,fun q hq hlq=>?_,fun hr=>⟨nf1_block (h.rw.nr hr).1 (far br (h.rw.nr hr).1.1 (by rw[h.sp.r hr];omega)) o.size,(h.rw.nr hr).2⟩,fun _=>⟨nf,(h.rw.nc hn).2⟩,fun _=>h.rw.d hn,fun q q' hq hq' hne h1 h2=>?_,fun q hq=>?_⟩,h.gr.block (fun q hq=>far q (h.gr.lt q hq).2 (by rw[h.sp.y q hq];omega)),⟨h.sp.g,h.sp.r,fun _=>h.sp.c hn,h.sp.y,fun q hq hlq=>?_⟩,by rw[hl];exact h.kl,h.pr.of (fun q hq h1=>far q hq (by rw[h1];omega)) (fun _ _ h=>h),fun hk=>(h.cc hk).cells rfl nf (fun j v _ hv=>?_)⟩
 ·rw[hl];exact(h.bx.block fg)
 ·exact(h.rw.r k hk).of fun j _=>World.cell?_of_block (a:=⟨br,_,none⟩) (far br (h.rw.nr (by have:k<x.regs.length:=hk;omega)).1.1 (by rw[h.sp.r (by have:k<x.regs.length:=hk;omega)];omega))
 ·rw[hl] at hq;rw[hc q];by_cases e:q=i
  ·subst e;rw[if_pos rfl];exact hs
  ·rw[if_neg e];exact(h.rw.s q hq).of fun j hj=>ho _ (by omega)
 ·rw[hl] at hq;rw[hpr q,ho _ (by omega)];exact h.rw.p7 q hq
 ·rw[hl] at hq;have e2:(({ x with cells:=x.cells.set i c' }:Hp).c q).p k=(x.c q).p k:=by simp only [Cl.p,hpr q]
  rw[hpr q] at hk;rw[e2];exact(h.rw.p q hq k hk).of fun j _=>World.cell?_of_block (a:=⟨pb q,_,none⟩) (pf q hq (h.rw.pw hq (by omega)))
 ·rw[hl] at hq;obtain⟨a1,a2,a3⟩:=h.rw.pl q hq hlq;exact⟨a1,nfp_block a2 (pf q hq hlq) o.size,a3⟩
 ·rw[hl] at hq hq';exact h.rw.dp q q' hq hq' hne h1 h2
 ·rw[hl] at hq;rw[hpr q];exact h.rw.kp q hq
 ·rw[hl] at hq;exact h.sp.p q hq hlq
 ·by_cases e:j<i*8∨i*8+7≤j
  ·exact⟨v,(ho j e).trans hv⟩
  ·have:=hs.some (j-i*8) (by omega);rw[show i*8+(j-i*8)=j by omega] at this;exact this
theorem GAt.push[Inhabited ProtD]{B:Nat}{W w5:World}{g:Nat}{x:Hp}{ar:Option Addr}{kr:Nat}{ac:Option Addr}{kc:Nat}{vg:Value}{br bc:Nat}{pb:Nat→Nat}{pa:Nat→Option Addr}{pk:Nat→Nat}{role:Nat→Nat}{i:Int}{gb go cap:Nat}(h:GAt B W g x ar kr ac kc vg br bc pb pa pk role)(hg:W.grownBy w5 vg.ownBlock)(h5:Grw w5 B (.slice (some ⟨gb,go,none⟩) (x.gray.length+1) cap) (x.gray++[i]))(hat:vg.ownBlock=some gb∨gb=W.heap.size):
  GAt B (w5.setCell ⟨g,8,none⟩ (.slice (some ⟨gb,go,none⟩) (x.gray.length+1) cap)) g { x with gray:=x.gray++[i] } ar kr ac kc (.slice (some ⟨gb,go,none⟩) (x.gray.length+1) cap) br bc pb pa pk (fun q=>if q=gb then 4 else role q):=by
 have hgb:∀q,q<W.heap.size→role q≠4→q≠gb:=fun q hq hr e=>by
  rcases hat with a | a
  ·exact hr (by rw[e];exact h.sp.y gb a)
  ·omega
 have far:∀q,q<W.heap.size→role q≠4→w5.heap[q]?=W.heap[q]?:=fun q hq hr=>hg.block q hq (fun e=>hr (h.sp.y q e.symm))
 have hb:=h.nf.1;have rb:role g≠4:=by rw[h.sp.g];omega
 have fb:=far g hb rb;have nbg:=hgb g hb rb;have far2:∀q,q<W.heap.size→role q≠4→q≠g→(w5.setCell ⟨g,8,none⟩ (.slice (some ⟨gb,go,none⟩) (x.gray.length+1) cap)).heap[q]?=W.heap[q]?:=fun q hq hr hne=>(Below.heap_setCell _ _ _ _ hne).trans (far q hq hr)
 have hsz:W.heap.size≤(w5.setCell ⟨g,8,none⟩ (.slice (some ⟨gb,go,none⟩) (x.gray.length+1) cap)).heap.size:=by have:=hg.size;simpa [World.setCell] using this
 have rw2:=h.rw.same hsz (fun hl=>far2 br (h.rw.nr hl).1.1 (by rw[h.sp.r hl];omega) (fun e=>by have h1:=h.sp.r hl;have h2:=h.sp.g;rw[e] at h1;omega)) (fun hl=>far2 bc (h.rw.nc hl).1.1 (by rw[h.sp.c hl];omega) (fun e=>by have h1:=h.sp.c hl;have h2:=h.sp.g;rw[e] at h1;omega)) (fun q hq hl=>far2 (pb q) (h.rw.pl q hq hl).2.1.1 (by rw[h.sp.p q hq hl];omega) (fun e=>by have h1:=h.sp.p q hq hl;have h2:=h.sp.g;rw[e] at h1;omega));refine⟨(h.bx.block fb).set8 _,(nf1_block h.nf fb hg.size).set _ _,h.lo,h.ha,h.hc,⟨rw2.r,rw2.s,rw2.p7,rw2.p,rw2.pl,rw2.nr,rw2.nc,rw2.d,rw2.dp,rw2.kp⟩,?_,⟨?_,fun hl=>?_,fun hl=>?_,fun q hq=>?_,fun q hq hl=>?_⟩,h.kl,h.pr.of (fun q hq h1=>far2 q hq (by rw[h1];omega) (fun e=>by have h2:=h.sp.g;rw[e] at h1;omega)) (fun q hq h1=>by(try dsimp only);rw[if_neg (hgb q hq (by rw[h1];omega))];exact h1),fun hk=>(h.cc hk).block (if_neg (hgb bc (h.cc hk).nf.1 (by rw[(h.cc hk).ro];omega))) (far2 bc (h.cc hk).nf.1 (by rw[(h.cc hk).ro];omega) (fun e=>by have h1:=(h.cc hk).ro;have h2:=h.sp.g;rw[e] at h1;omega)) hsz⟩
 ·exact h5.block (w':=w5.setCell ⟨g,8,none⟩ (.slice (some ⟨gb,go,none⟩) (x.gray.length+1) cap)) (fun q hq=>Below.heap_setCell _ _ _ _ (fun e=>nbg (by simp [Value.ownBlock] at hq;rw[hq];exact e.symm)))
 ·rw[if_neg nbg];exact h.sp.g
 ·rw[if_neg (hgb br (h.rw.nr hl).1.1 (by rw[h.sp.r hl];omega))];exact h.sp.r hl
 ·rw[if_neg (hgb bc (h.rw.nc hl).1.1 (by rw[h.sp.c hl];omega))];exact h.sp.c hl
 ·simp [Value.ownBlock] at hq;rw[if_pos hq.symm]
 ·rw[if_neg (hgb (pb q) (h.rw.pl q hq hl).2.1.1 (by rw[h.sp.p q hq hl];omega))];exact h.sp.p q hq hl
def SK(c:Cl):Prop:=c.weak≠1∧c.weak≠3
def SV(c:Cl):Prop:=c.weak≠2∧c.weak≠3
def Held(x:Hp)(i:Nat):Prop:=∀P:Nat→Prop,(∀k (h:k<x.regs.length),x.regs[k].k=2→P (tgt x x.regs[k]))→(∀i,i<x.cells.length→(x.c i).last=2→P i)→
 (∀j p,P j→p<(x.c j).prs.length→SK (x.c j)→((x.c j).p p).key.k=2→P (tgt x ((x.c j).p p).key))→
 (∀j p,P j→p<(x.c j).prs.length→SV (x.c j)→(((x.c j).p p).key.k=2→P (tgt x ((x.c j).p p).key))→((x.c j).p p).val.k=2→P (tgt x ((x.c j).p p).val))→P i
theorem Held.reg{x:Hp}(k:Nat)(h:k<x.regs.length)(hk:x.regs[k].k=2):Held x (tgt x x.regs[k]):=fun _ a _ _ _=>a k h hk
theorem Held.due{x:Hp}(i:Nat)(hi:i<x.cells.length)(h:(x.c i).last=2):Held x i:=fun _ _ b _ _=>b i hi h
theorem Held.key{x:Hp}(j p:Nat)(h:Held x j)(hp:p<(x.c j).prs.length)(hs:SK (x.c j))(hk:((x.c j).p p).key.k=2):Held x (tgt x ((x.c j).p p).key):=fun P a b c d=>c j p (h P a b c d) hp hs hk
theorem Held.val{x:Hp}(j p:Nat)(h:Held x j)(hp:p<(x.c j).prs.length)(hs:SV (x.c j))(hh:((x.c j).p p).key.k=2→Held x (tgt x ((x.c j).p p).key))(hk:((x.c j).p p).val.k=2):Held x (tgt x ((x.c j).p p).val):=fun P a b c d=>d j p (h P a b c d) hp hs (fun e=>hh e P a b c d) hk
theorem Held.reached{x:Hp}(r2:R2 x){i:Nat}(h:Held x i):Reached x i:=
 h (Reached x) (fun k h hk=>Reached.reg k h hk) (fun i hi hl=>Reached.last i hi (speaks_used r2 i hi (.inr hl)) (.inr hl)) (fun j p ih hp _ hk=>Reached.key j p ih hp hk) (fun j p ih hp _ _ hk=>Reached.val j p ih hp hk)
theorem Held.good{x:Hp}(r2:R2 x)(r4:R4 x){i:Nat}(h:Held x i):Good x i:=(h.reached r2).good r2 r4
def OnlyH(x:Hp)(L:List Int):Prop:=∀z,z∈L→∃i:Nat,z=(i:Int)∧Held x i
theorem OnlyH.add{x:Hp}{y:Wd}{L L':List Int}(h:OnlyH x L)(a:Add x y L L')(hy:y.k=2→Held x (tgt x y)):OnlyH x L':=fun z hz=>by
 rcases a.new hz with q | ⟨k,e⟩
 ·exact h z q
 ·exact⟨_,e,hy k⟩
def DueIn(x:Hp)(k:Nat)(L:List Int):Prop:=∀i,i<k→i<x.cells.length→(x.c i).last=2→(i:Int)∈L
def PairsH(x:Hp)(L0:List Int)(j k:Nat)(T:List Int):Prop:=∀p,p<k→(SK (x.c j)→((x.c j).p p).key.k=2→(tgt x ((x.c j).p p).key:Int)∈T)∧(SV (x.c j)→(((x.c j).p p).key.k=2→(tgt x ((x.c j).p p).key:Int)∈L0)→((x.c j).p p).val.k=2→(tgt x ((x.c j).p p).val:Int)∈T)
theorem PairsH.mono{x:Hp}{L0:List Int}{j k:Nat}{T T':List Int}(h:PairsH x L0 j k T)(s:∀z,z∈T→z∈T'):PairsH x L0 j k T':=fun p hp=>⟨fun a e=>s _ ((h p hp).1 a e),fun a b e=>s _ ((h p hp).2 a b e)⟩
def ClH(x:Hp)(L0:List Int)(c:Nat)(T:List Int):Prop:=∀q,q<c→PairsH x L0 (it T q).toNat (x.c (it T q).toNat).prs.length T
theorem ClH.add{x:Hp}{L0:List Int}{y:Wd}{c:Nat}{T T':List Int}(h:ClH x L0 c T)(a:Add x y T T')(hc:c≤T.length):ClH x L0 c T':=fun q hq=>by
 obtain⟨R,e⟩:=a.pre;have e2:it T' q=it T q:=by rw[e];exact it_pre (by omega)
 rw[e2];exact(h q hq).mono (fun z hz=>a.sub hz)
structure Pass(x:Hp)(L0:List Int)(c:Nat)(T:List Int):Prop where
 o:OnlyH x T
 r:RegsIn x x.regs.length T
 d:DueIn x x.cells.length T
 e:∃R,T=L0++R
 c:ClH x L0 c T
theorem Pass.add{x:Hp}{L0:List Int}{y:Wd}{c:Nat}{T T':List Int}(h:Pass x L0 c T)(a:Add x y T T')(hc:c≤T.length)(hy:y.k=2→Held x (tgt x y)):Pass x L0 c T':=
 ⟨h.o.add a hy,fun j hj hk e=>a.sub (h.r j hj hk e),fun i hi hn e=>a.sub (h.d i hi hn e),by
  obtain⟨R,e⟩:=h.e;obtain⟨R',e'⟩:=a.pre;exact⟨R++R',by rw[e',e,List.append_assoc]⟩,h.c.add a hc⟩
theorem Pass.step{x:Hp}{L0:List Int}{c j:Nat}{T:List Int}(h:Pass x L0 c T)(e:it T c=(j:Int))(k:PairsH x L0 j (x.c j).prs.length T):Pass x L0 (c+1) T:=
 ⟨h.o,h.r,h.d,h.e,fun q hq=>by
  by_cases f:q=c
  ·subst f;rw[e];simpa using k
  ·exact h.c q (by omega)⟩
structure Rest(x:Hp)(n:Int)(L:List Int):Prop where
 o:OnlyH x L
 r:RegsIn x x.regs.length L
 d:DueIn x x.cells.length L
 b:-1≤n∧n≤L.length
 c:n=L.length→ClH x L L.length L
theorem Rest.begin{x:Hp}{n:Int}{L:List Int}(h:Rest x n L):Pass x L 0 L:=⟨h.o,h.r,h.d,⟨[],by simp⟩,fun q hq=>by omega⟩
theorem Pass.rest{x:Hp}{L0 T:List Int}(h:Pass x L0 T.length T):Rest x L0.length T:=by
 obtain⟨R,e⟩:=h.e;refine⟨h.o,h.r,h.d,⟨by omega,by rw[e];simp;omega⟩,fun f=>?_⟩
 have:R=[]:=by
  have:(T.length:Int)=L0.length+R.length:=by rw[e];simp
  exact List.length_eq_zero_iff.1 (by omega)
 have e2:T=L0:=by rw[e,this];simp
 have:=h.c;rw[←e2] at this;exact this
theorem ad_sub{O:List Nat}{o:Option Nat}{i:Nat}(h:i∈O):i∈ad O o:=by
 unfold ad
 split
 ·exact h
 ·split
  ·exact h
  ·exact List.mem_append_left _ h
theorem ad_has{O:List Nat}{i:Nat}:i∈ad O (some i):=by
 unfold ad;simp only
 split
 ·assumption
 ·simp
theorem ad_mem{O:List Nat}{o:Option Nat}{i:Nat}(h:i∈ad O o):i∈O∨o=some i:=by
 unfold ad at h
 split at h
 ·exact .inl h
 ·split at h
  ·exact .inl h
  ·rcases List.mem_append.1 h with q | q
   ·exact .inl q
   ·simp at q;exact .inr (by rw[q])
theorem ad_nd{O:List Nat}{o:Option Nat}(h:O.Nodup):(ad O o).Nodup:=by
 unfold ad
 split
 ·exact h
 ·split
  ·exact h
  ·rename_i n;rw[List.nodup_append];exact⟨h,by simp,fun a ha b hb=>by simp at hb;rw[hb];intro e;exact n (e ▸ ha)⟩
theorem ad_pre(O:List Nat)(o:Option Nat):∃R,ad O o=O++R:=by
 unfold ad
 split
 ·exact⟨[],by simp⟩
 ·split
  ·exact⟨[],by simp⟩
  ·exact⟨_,rfl⟩
theorem wq_some{x:Hp}{y:Wd}{i:Nat}(h:wq x y=some i):y.k=2∧i=tgt x y:=by
 unfold wq at h
 split at h
 ·rename_i k;cases h;exact⟨k,rfl⟩
 ·cases h
theorem wq_pos{x:Hp}{y:Wd}(h:y.k=2):wq x y=some (tgt x y):=by unfold wq;rw[if_pos h]
def PIn(x:Hp)(j p:Nat)(O:List Nat):Prop:=∀q,q<p→q<(x.c j).prs.length→(((x.c j).p q).key.k=2→tgt x ((x.c j).p q).key∈O)∧(((x.c j).p q).val.k=2→tgt x ((x.c j).p q).val∈O)
theorem PIn.mono{x:Hp}{j p:Nat}{O O':List Nat}(h:PIn x j p O)(s:∀i,i∈O→i∈O'):PIn x j p O':=fun q h1 h2=>⟨fun e=>s _ ((h q h1 h2).1 e),fun e=>s _ ((h q h1 h2).2 e)⟩
theorem prO_is{x:Hp}{j:Nat}{O:List Nat}(hj:Reached x j)(ho:∀i,i∈O→Reached x i)(hn:O.Nodup)(p:Nat)(hp:p≤(x.c j).prs.length):(∀i,i∈prO x j p O→Reached x i)∧(prO x j p O).Nodup∧PIn x j p (prO x j p O)∧∃R,prO x j p O=O++R:=by
 induction p with
 | zero=>exact⟨ho,hn,fun q h=>by omega,[],by simp [prO]⟩
 | succ p ih=>
  obtain⟨a,b,c,R,d⟩:=ih (by omega);rw[prO_step p (by omega)];refine⟨fun i hi=>?_,ad_nd (ad_nd b),fun q h1 h2=>?_,?_⟩
  ·rcases ad_mem hi with h | h
   ·rcases ad_mem h with h | h
    ·exact a i h
    ·obtain⟨k,rfl⟩:=wq_some h;exact Reached.key j p hj (by omega) k
   ·obtain⟨k,rfl⟩:=wq_some h;exact Reached.val j p hj (by omega) k
  ·by_cases e:q=p
   ·subst e;exact⟨fun k=>ad_sub (by rw[wq_pos k];exact ad_has),fun k=>by rw[wq_pos k];exact ad_has⟩
   ·have:=c q (by omega) h2;exact⟨fun k=>ad_sub (ad_sub (this.1 k)),fun k=>ad_sub (ad_sub (this.2 k))⟩
  ·obtain⟨R1,e1⟩:=ad_pre (prO x j p O) (wq x ((x.c j).p p).key);obtain⟨R2,e2⟩:=ad_pre (ad (prO x j p O) (wq x ((x.c j).p p).key)) (wq x ((x.c j).p p).val);exact⟨R++R1++R2,by rw[e2,e1,d];simp⟩
theorem len_le{O:List Nat}{n:Nat}(hn:O.Nodup)(h:∀i,i∈O→i<n):O.length≤n:=by
 have:=List.Nodup.length_le_of_subset hn (fun z hz=>List.mem_range.2 (h z hz))
 simpa using this
structure OrdIs(x:Hp)(O:List Nat):Prop where
 r:∀i,i∈O→Reached x i
 nd:O.Nodup
 g:∀k (h:k<x.regs.length),x.regs[k].k=2→tgt x x.regs[k]∈O
 s:∀i,i<x.cells.length→Speaks (x.c i)→i∈O
 p:∀j,j∈O→PIn x j (x.c j).prs.length O
theorem clO_is{x:Hp}(hr:∀i,Reached x i→i<x.cells.length):∀(f c:Nat) (O:List Nat),x.cells.length+1≤f+c→c≤O.length→(∀i,i∈O→Reached x i)→O.Nodup→(∀q (h:q<O.length),q<c→PIn x O[q] (x.c O[q]).prs.length O)→
  (∀i,i∈clO x f c O→Reached x i)∧(clO x f c O).Nodup∧(∀j,j∈clO x f c O→PIn x j (x.c j).prs.length (clO x f c O))∧(∀i,i∈O→i∈clO x f c O)
 | 0,c,O,hf,hc,ho,hn,_=>by
  have:=len_le hn (fun i hi=>hr i (ho i hi));omega
 | f+1,c,O,hf,hc,ho,hn,hp=>by
  by_cases h:c<O.length
  ·have hj:=ho O[c] (List.getElem_mem h);obtain⟨a,b,d,R,e⟩:=prO_is hj ho hn (x.c O[c]).prs.length (Nat.le_refl _);have hl:=prO_len x O[c] (x.c O[c]).prs.length O;have sub:∀i,i∈O→i∈prO x O[c] (x.c O[c]).prs.length O:=fun i hi=>by rw[e];exact List.mem_append_left _ hi
   have ih:=clO_is hr f (c+1) (prO x O[c] (x.c O[c]).prs.length O) (by omega) (by omega) a b (fun q hq hqc=>by
    have hq2:q<O.length:=by omega
    have eq:(prO x O[c] (x.c O[c]).prs.length O)[q]=O[q]:=by simp only [e];exact List.getElem_append_left hq2
    rw[eq];by_cases z:q=c
    ·subst z;exact d
    ·exact(hp q hq2 (by omega)).mono sub)
   simp only [clO,h,dite_true];exact⟨ih.1,ih.2.1,ih.2.2.1,fun i hi=>ih.2.2.2 i (sub i hi)⟩
  ·simp only [clO,h,dite_false];refine⟨ho,hn,fun j hj=>?_,fun i hi=>hi⟩;obtain⟨q,hq,e⟩:=List.getElem_of_mem hj;have:=hp q hq (by omega);rw[e] at this;exact this
theorem regO_is{x:Hp}(k:Nat)(hk:k≤x.regs.length):(∀i,i∈regO x k→Reached x i)∧(regO x k).Nodup∧∀j (h:j<x.regs.length),j<k→x.regs[j].k=2→tgt x x.regs[j]∈regO x k:=by
 induction k with
 | zero=>exact⟨fun i hi=>by simp [regO] at hi,by simp [regO],fun j _ h=>by omega⟩
 | succ k ih=>
  obtain⟨a,b,c⟩:=ih (by omega);rw[regO_step k (by omega)];refine⟨fun i hi=>?_,ad_nd b,fun j h hj e=>?_⟩
  ·rcases ad_mem hi with q | q
   ·exact a i q
   ·obtain⟨z,rfl⟩:=wq_some q;exact Reached.reg k (by omega) z
  ·by_cases z:j=k
   ·subst z;rw[wq_pos e];exact ad_has
   ·exact ad_sub (c j h (by omega) e)
def nw(x:Hp)(O:List Nat)(y:Wd):Wd:=if y.k=2 then ⟨2,0,((O.idxOf (tgt x y):Nat):Int)⟩ else y
def np(x:Hp)(O:List Nat)(p:Pr):Pr:=⟨nw x O p.key,nw x O p.val⟩
def regTo(x:Hp)(r:Nat)(y:Wd):Hp:={ x with regs:=x.regs.set r y }
theorem Snd.regTo{x:Hp}(h:Snd x)(r:Nat)(y:Wd)(hy:Leads x y False):Snd (regTo x r y) where
 r1:=⟨h.r1.room,by simp [Proofs.YtddkhnclmeikfaaGreat.regTo];exact h.r1.regs,h.r1.cells,h.r1.gray,h.r1.born,h.r1.rounds,h.r1.forced,h.r1.per,h.r1.start,h.r1.phase,h.r1.hand,h.r1.sub⟩
 r2:=h.r2
 r3:=h.r3
 r4:=⟨fun i hi=>by
  have hi2:i<x.regs.length:=by simpa [Proofs.YtddkhnclmeikfaaGreat.regTo] using hi
  by_cases e:r=i
  ·subst e;have:(Proofs.YtddkhnclmeikfaaGreat.regTo x r y).regs[r]=y:=by simp [Proofs.YtddkhnclmeikfaaGreat.regTo]
   rw[this];exact hy
  ·have:(Proofs.YtddkhnclmeikfaaGreat.regTo x r y).regs[i]=x.regs[i]:=by simp [Proofs.YtddkhnclmeikfaaGreat.regTo,List.getElem_set_ne e]
   rw[this];exact h.r4.1 i hi2,h.r4.2⟩
 r5:=h.r5
 r6:=h.r6
 r7:=h.r7
 r8:=h.r8
def paceTo(x:Hp)(p s:Int):Hp:={ x with per:=p,start:=s }
theorem Snd.paceTo{x:Hp}(h:Snd x)(p s:Int)(hp:0≤p∧p≤64)(hs:0≤s∧s≤4000):Snd (paceTo x p s) where
 r1:=⟨h.r1.room,h.r1.regs,h.r1.cells,h.r1.gray,h.r1.born,h.r1.rounds,h.r1.forced,hp,hs,h.r1.phase,h.r1.hand,h.r1.sub⟩
 r2:=h.r2
 r3:=h.r3
 r4:=h.r4
 r5:=h.r5
 r6:=h.r6
 r7:=h.r7
 r8:=h.r8
def forceTo(x:Hp):Hp:={ x with forced:=if x.forced<1000000000 then x.forced+1 else x.forced }
theorem Snd.forceTo{x:Hp}(h:Snd x):Snd (forceTo x) where
 r1:=⟨h.r1.room,h.r1.regs,h.r1.cells,h.r1.gray,h.r1.born,h.r1.rounds,by have:=h.r1.forced;show 0≤(if x.forced<1000000000 then x.forced+1 else x.forced)∧(if x.forced<1000000000 then x.forced+1 else x.forced)≤1000000000;split <;> omega,h.r1.per,h.r1.start,h.r1.phase,h.r1.hand,h.r1.sub⟩
 r2:=h.r2
 r3:=h.r3
 r4:=h.r4
 r5:=h.r5
 r6:=h.r6
 r7:=h.r7
 r8:=h.r8
theorem l1resolve_may(x:Hp)(y:Wd)(b:Nat)(w:World){ar:Option Addr}{kr:Nat}{ac:Option Addr}{kc:Nat}{ag:Option Addr}{kg:Nat}(h:HAt w b x ar kr ac kc ag kg)(hy:MayMark x y):
  Calls Tryz.prog 138 #[.pointer (some ⟨b,0,none⟩),y.v] w fun e w'=>∃t:Wd,Hid (e=.returned t.v)∧Hid ((y.k≠2∧t=y)∨(y.k=2∧t=⟨2,0,(tgt x y:Int)⟩))∧Ext w w':=by
 cases k2:(y.k == 2)
 ·exact(l1resolve_num y b w k2).mono fun _ _ ⟨he,hx⟩=>⟨y,he,.inl ⟨by simpa using k2,rfl⟩,hx⟩
 ·have hk:y.k=2:=by simpa using k2
  obtain⟨n0,a0,a1,ht,hg⟩:=hy hk;obtain⟨i,hi⟩:∃i:Nat,y.a=(i:Int):=⟨y.a.toNat,by omega⟩;have et:tgt x y=lead2 x i:=by unfold tgt;rw[hi];simp
  have ev:(.agg #[iv 2,iv 0,iv i]:Value)=y.v:=by rw[←hi,←n0,←hk]
  have ei:y.a.toNat=i:=by omega
  rw[ei] at ht;have:=l1resolve_at x b i w h (by omega) ht;rw[ev] at this;exact this.mono fun _ _ ⟨he,hx⟩=>⟨⟨2,0,(tgt x y:Int)⟩,by rw[he,et];rfl,.inr ⟨hk,rfl⟩,hx⟩
def BxAt(w:World)(B bs:Nat)(v:Value)(wk:Int):Prop:=w.cell? ⟨B,2,none⟩=some (iv wk)∧B≠bs∧v.ownBlock≠some B
theorem BxAt.ext{w w':World}{B bs:Nat}{v:Value}{wk:Int}(h:BxAt w B bs v wk)(e:Ext w w'):BxAt w' B bs v wk:=⟨e.keep h.1,h.2⟩
theorem Mfr.apart{bs:Nat}{v v':Value}{w w':World}(m:Mfr bs v v' w w'){B:Nat}(hB:B<w.heap.size)(hv:v.ownBlock≠some B):v'.ownBlock≠some B:=fun e=>by
 rcases m.own with q | ⟨g,q,hg⟩
 ·rw[q] at e;exact hv e
 ·rw[q] at e;cases e;omega
structure PBx(w:World)(B bs:Nat)(v:Value)(p:Pr):Prop where
 c:w.cell? ⟨B,0,none⟩=some (.int .i64 p.key.k)∧w.cell? ⟨B,1,none⟩=some (.int .i64 p.key.n)∧w.cell? ⟨B,2,none⟩=some (.int .i64 p.key.a)∧w.cell? ⟨B,3,none⟩=some (.int .i64 p.val.k)∧w.cell? ⟨B,4,none⟩=some (.int .i64 p.val.n)∧w.cell? ⟨B,5,none⟩=some (.int .i64 p.val.a)
 n:B≠bs
 o:v.ownBlock≠some B
theorem PBx.ext{w w':World}{B bs:Nat}{v:Value}{p:Pr}(h:PBx w B bs v p)(e:Ext w w'):PBx w' B bs v p:=⟨⟨e.keep h.c.1,e.keep h.c.2.1,e.keep h.c.2.2.1,e.keep h.c.2.2.2.1,e.keep h.c.2.2.2.2.1,e.keep h.c.2.2.2.2.2⟩,h.n,h.o⟩
theorem PBx.new{w:World}{base bs n:Nat}{v:Value}{T:List Int}{p:Pr}{t:TypeId}(h:Sn w base bs n v T):PBx (w.alloc (.cells #[.int .i64 p.key.k,.int .i64 p.key.n,.int .i64 p.key.a,.int .i64 p.val.k,.int .i64 p.val.n,.int .i64 p.val.a] t)) w.heap.size bs v p:=
 ⟨by simp [go_sem],by have:=h.hb.2;omega,fun e=>by have:=(h.own.lt _ e).2;omega⟩
theorem PairsH.more{x:Hp}{L0:List Int}{j p:Nat}{T:List Int}(h:PairsH x L0 j p T)(hk:SK (x.c j)→((x.c j).p p).key.k=2→(tgt x ((x.c j).p p).key:Int)∈T)(hv:SV (x.c j)→(((x.c j).p p).key.k=2→(tgt x ((x.c j).p p).key:Int)∈L0)→((x.c j).p p).val.k=2→(tgt x ((x.c j).p p).val:Int)∈T):PairsH x L0 j (p+1) T:=fun q hq=>by
 by_cases e:q=p
 ·subst e;exact⟨hk,hv⟩
 ·exact h q (by omega)
theorem Pass.val{x:Hp}{L:List Int}{c j p:Nat}{T T8:List Int}(h:Pass x L c T∧it T c=(j:Int)∧c<T.length∧PairsH x L j p T∧(SK (x.c j)→((x.c j).p p).key.k=2→(tgt x ((x.c j).p p).key:Int)∈T))(a:Add x ((x.c j).p p).val T T8)(hy:((x.c j).p p).val.k=2→Held x (tgt x ((x.c j).p p).val)):Pass x L c T8∧it T8 c=(j:Int)∧c<T8.length∧PairsH x L j (p+1) T8:=by
 obtain⟨i1,i2,i3,i4,i5⟩:=h;obtain⟨R,r⟩:=a.pre;have l5:T.length≤T8.length:=by rw[r];simp
 refine⟨i1.add a (by omega) hy,?_,by omega,(i4.mono (fun z hz=>a.sub hz)).more (fun s e=>a.sub (i5 s e)) (fun _ _ e=>a.has e)⟩;rw[r,it_pre i3];exact i2
def growC(c:Cl)(n:Nat):Cl:={ c with prs:=c.prs++List.replicate n Pr0 }
def growH(x:Hp)(i n:Nat):Hp:={ x with cells:=x.cells.set i (growC (x.c i) n),used:=x.used+n }
theorem growH_c(x:Hp)(i n:Nat)(hi:i<x.cells.length)(q:Nat):(growH x i n).c q=if q=i then growC (x.c i) n else x.c q:=Hp.c_set x i (growC (x.c i) n) hi q
theorem growH_len(x:Hp)(i n:Nat):(growH x i n).cells.length=x.cells.length:=by simp [growH]
theorem growH_as(x:Hp)(i n:Nat)(hi:i<x.cells.length)(q:Nat):((growH x i n).c q).st=(x.c q).st∧((growH x i n).c q).kind=(x.c q).kind∧((growH x i n).c q).weak=(x.c q).weak∧((growH x i n).c q).last=(x.c q).last∧((growH x i n).c q).born=(x.c q).born∧((growH x i n).c q).color=(x.c q).color∧((growH x i n).c q).to=(x.c q).to:=by
 rw[growH_c x i n hi q];by_cases e:q=i
 ·rw[if_pos e,e];exact⟨rfl,rfl,rfl,rfl,rfl,rfl,rfl⟩
 ·rw[if_neg e];exact⟨rfl,rfl,rfl,rfl,rfl,rfl,rfl⟩
theorem growC_p(c:Cl)(n k:Nat):(growC c n).p k=if k<c.prs.length then c.p k else Pr0:=by
 unfold Cl.p growC;by_cases h:k<c.prs.length
 ·rw[if_pos h];simp only [List.getD_eq_getElem?_getD];rw[List.getElem?_append_left h]
 ·rw[if_neg h];simp only [List.getD_eq_getElem?_getD];rw[List.getElem?_append_right (by omega)];by_cases h2:k-c.prs.length<n
  ·simp [h2]
  ·simp [h2]
theorem growH_doomed(x:Hp)(i n:Nat)(hi:i<x.cells.length)(q:Nat):Doomed (growH x i n) q↔Doomed x q:=by
 have a:=growH_as x i n hi q;unfold Doomed;rw[a.1,a.2.2.2.2.2.1];exact Iff.rfl
theorem growH_leads(x:Hp)(i n:Nat)(hi:i<x.cells.length)(y:Wd)(m:Prop):Leads (growH x i n) y m↔Leads x y m:=by
 have a:=growH_as x i n hi y.a.toNat;unfold Leads;rw[growH_len,a.1,growH_doomed x i n hi]
theorem Snd.grow{x:Hp}(h:Snd x)(i n:Nat)(hi:i<x.cells.length)(hs:(x.c i).st=1)(hl:(x.c i).prs.length+n≤200)(hu:x.used+n≤x.room):Snd (growH x i n) where
 r1:=⟨h.r1.room,h.r1.regs,by rw[growH_len];exact h.r1.cells,by rw[growH_len];exact h.r1.gray,h.r1.born,h.r1.rounds,h.r1.forced,h.r1.per,h.r1.start,h.r1.phase,by rw[growH_len];exact h.r1.hand,h.r1.sub⟩
 r2:=⟨fun q hq=>by
  rw[growH_len] at hq;have ok:=h.r2.1 q hq;have aT:=growH_as x i n hi (x.c q).to.toNat;by_cases e:q=i
  ·subst e;rcases ok with o | o | o
   ·omega
   ·omega
   ·refine .inr (.inr ⟨?_,?_⟩)
    ·rw[growH_c x q n hi q,if_pos rfl];exact hs
    ·rw[growH_c x q n hi q,if_pos rfl];obtain⟨_,o1,o2,o3,o4,o5,o6,o7⟩:=o;exact⟨o1,o2,o3,o4,o5,o6,by simp [growC];omega⟩
  ·have ec:(growH x i n).c q=x.c q:=by rw[growH_c x i n hi q,if_neg e]
   unfold CellOk;rw[ec];rcases ok with o | ⟨o,m⟩ | o
   ·exact .inl o
   ·refine .inr (.inl ⟨o,m.1,m.2.1,m.2.2.1,m.2.2.2.1,by rw[aT.1];exact m.2.2.2.2.1,fun hp k hk=>?_⟩);have ak:=growH_as x i n hi k;rw[ak.1];exact m.2.2.2.2.2 hp k hk
   ·exact .inr (.inr o),fun q hq h0 k hk=>by
  rw[growH_len] at hq;have aq:=growH_as x i n hi q;have ak:=growH_as x i n hi k;rw[aq.1] at h0;rw[ak.1,ak.2.2.2.2.1,ak.2.2.2.2.2.2,aq.1,aq.2.2.2.2.1,aq.2.2.2.2.2.2];exact h.r2.2 q hq h0 k hk⟩
 r3:=by
  have u:=units_set2 x.cells i (growC (x.c i) n) hi;rw[Hp.c_eq x i hi] at u;have e1:unitsOf (x.c i)=1+(x.c i).prs.length:=by unfold unitsOf;rw[if_pos hs]
  have e2:unitsOf (growC (x.c i) n)=1+((x.c i).prs.length+n):=by
   unfold unitsOf;rw[if_pos (show(growC (x.c i) n).st=1 from hs)];simp [growC]
  rw[e1,e2] at u;have r:=h.r3;refine⟨?_,hu⟩;show x.used+(n:Int)=(units (x.cells.set i (growC (x.c i) n)):Nat);have:=r.1;omega
 r4:=⟨fun j hj=>(growH_leads x i n hi _ _).2 (h.r4.1 j hj),fun q hq=>by
  rw[growH_len] at hq;have aq:=growH_as x i n hi q;refine⟨fun⟨d,s⟩=>(h.r4.2 q hq).1 ⟨(growH_doomed x i n hi q).1 d,by unfold Speaks at s ⊢;rw[aq.2.2.2.1] at s;exact s⟩,fun k hk=>?_⟩
  have key:∀p:Pr,PairOk x q k p→PairOk (growH x i n) q k p:=fun p o=>⟨fun d=>by rw[growH_len];exact o.1 ((growH_doomed x i n hi q).1 d),fun d=>by
   have:=o.2 (fun d2=>d ((growH_doomed x i n hi q).2 d2));exact⟨(growH_leads x i n hi _ _).2 this.1,(growH_leads x i n hi _ _).2 this.2⟩⟩
  by_cases e:q=i
  ·subst e;rw[growH_c x q n hi q,if_pos rfl] at hk ⊢;rw[growC_p];by_cases hk2:k<(x.c q).prs.length
   ·rw[if_pos hk2];exact key _ ((h.r4.2 q hq).2 k hk2)
   ·rw[if_neg hk2];have nl:∀m:Prop,Leads x ⟨0,0,0⟩ m:=fun m=>⟨.inl ⟨rfl,rfl,rfl⟩,fun h=>by simp at h⟩
    exact key _ ⟨fun _=>⟨(nl True).1,(nl True).1⟩,fun _=>⟨nl _,nl _⟩⟩
  ·rw[growH_c x i n hi q,if_neg e] at hk ⊢;exact key _ ((h.r4.2 q hq).2 k hk)⟩
 r5:=⟨h.r5.1,fun q hq=>by
  rw[growH_len] at hq;have aq:=growH_as x i n hi q;unfold ColorOk;rw[aq.2.2.2.2.2.1];exact h.r5.2.1 q hq,fun g hg=>by rw[growH_len];exact h.r5.2.2 g hg⟩
 r6:=by
  have lg:∀q,(x.c q).prs.length≤((growH x i n).c q).prs.length:=fun q=>by
   rw[growH_c x i n hi q];by_cases e:q=i
   ·rw[if_pos e,e];simp [growC]
   ·rw[if_neg e];exact Nat.le_refl _
  obtain⟨a,b,c,d⟩:=h.r6;refine⟨a,fun hp=>⟨(b hp).1,(b hp).2.1,fun hg=>?_⟩,fun hp=>⟨fun hq=>(c hp).1 ?_,fun hq=>?_⟩,d⟩
  ·have h1:=(b hp).2.2 hg;have h2:=lg x.g0;show x.sub≤(((growH x i n).c x.g0).prs.length:Int);omega
  ·rw[growH_len] at hq;have:=growH_as x i n hi x.hand.toNat;rcases hq with hq | hq
   ·exact .inl hq
   ·exact .inr (by rw[←this.1];exact hq)
  ·rw[growH_len] at hq;have a1:=growH_as x i n hi x.hand.toNat;have h1:=(c hp).2 ⟨hq.1,by rw[←a1.1];exact hq.2⟩;have h2:=lg x.hand.toNat;show x.sub≤(((growH x i n).c x.hand.toNat).prs.length:Int);omega
 r7:=fun hm q hq=>by
  rw[growH_len] at hq;have aq:=growH_as x i n hi q;have o:=h.r7 hm q hq;refine⟨fun hb=>o.1 ⟨by have:=hb.1;unfold Speaks at this ⊢;rw[aq.2.2.2.1] at this;exact this,by rw[←aq.2.2.2.2.2.1];exact hb.2.1,hb.2.2⟩,fun k hk=>?_⟩;have wh:∀y:Wd,White (growH x i n) y→White x y:=fun y hy=>⟨hy.1,by rw[←(growH_as x i n hi y.a.toNat).2.2.2.2.2.1];exact hy.2⟩
  have nil:∀p:Pr,p=Pr0→¬White (growH x i n) p.key∧¬White (growH x i n) p.val:=fun p e=>by subst e;exact⟨fun w=>by have:=w.1;simp [Pr0] at this,fun w=>by have:=w.1;simp [Pr0] at this⟩
  have old:∀k,k<looked x q→(k<(x.c q).prs.length→True)→¬White (growH x i n) ((x.c q).p k).key∧¬White (growH x i n) ((x.c q).p k).val:=fun k hk _=>⟨fun w=>(o.2 k hk).1 (wh _ w),fun w=>(o.2 k hk).2 (wh _ w)⟩
  by_cases e:q=i
  ·subst e;rw[growH_c x q n hi q,if_pos rfl,growC_p];by_cases hk2:k<(x.c q).prs.length
   ·rw[if_pos hk2];refine old k ?_ (fun _=>trivial);unfold looked at hk ⊢;rw[aq.2.2.2.2.2.1] at hk
    split at hk
    ·rename_i hc;rw[if_pos hc];exact hk2
    ·rename_i hc;rw[if_neg hc];exact hk
   ·rw[if_neg hk2];exact nil _ rfl
  ·rw[growH_c x i n hi q,if_neg e];refine old k ?_ (fun _=>trivial);unfold looked at hk ⊢;rw[growH_c x i n hi q,if_neg e] at hk;exact hk
 r8:=fun q hq=>by
  rw[growH_len] at hq;rw[(growH_as x i n hi q).1];exact h.r8 q hq
def lostB(x:Hp)(H:Nat→Bool)(y:Wd):Bool:=(resW x y).k == 2 && !H (resW x y).a.toNat
def wkB(c:Cl):Bool:=c.weak == 1 || c.weak == 3
def wvB(c:Cl):Bool:=c.weak == 2 || c.weak == 3
def goB(x:Hp)(H:Nat→Bool)(c:Cl)(p:Pr):Bool:=(wkB c && lostB x H p.key) || (wvB c && lostB x H p.val)
def stay(x:Hp)(H:Nat→Bool)(c:Cl)(l:List Pr):List Pr:=l.filter (fun p=>!goB x H c p)
def goes(x:Hp)(H:Nat→Bool)(c:Cl)(l:List Pr):Nat:=(l.filter (fun p=>goB x H c p)).length
theorem stay_goes(x:Hp)(H:Nat→Bool)(c:Cl)(l:List Pr):(stay x H c l).length+goes x H c l=l.length:=by
 unfold stay goes
 induction l with
 | nil=>rfl
 | cons p l ih=>
  cases h:goB x H c p <;> simp [h] <;> omega
def scanI(x:Hp):Int:=if x.phase=2∧0<x.gray.length then x.gray.getD 0 0 else if x.phase=5∧x.hand<x.cells.length then x.hand else -1
def letC(x:Hp)(H:Nat→Bool)(c:Cl):Cl:={ c with prs:=stay x H c c.prs }
def letSub(x:Hp)(H:Nat→Bool)(i:Nat)(s:Int):Int:=if scanI x=(i:Int) then s-goes x H (x.c i) ((x.c i).prs.take s.toNat) else s
def cutTo(x:Hp)(H:Nat→Bool):Nat→Hp
 | 0=>x
 | k+1=>if H k=true then { cutTo x H k with cells:=(cutTo x H k).cells.set k (letC x H (x.c k)),used:=(cutTo x H k).used-goes x H (x.c k) (x.c k).prs,sub:=letSub x H k (cutTo x H k).sub } else cutTo x H k
def goneTo(x:Hp)(H:Nat→Bool):Nat→Nat
 | 0=>0
 | k+1=>if H k=true then goneTo x H k+goes x H (x.c k) (x.c k).prs else goneTo x H k
def dueB(x:Hp)(H:Nat→Bool)(i:Nat):Bool:=!H i && (x.c i).last == 1
def dueC(c:Cl):Cl:={ c with last:=2 }
def dueTo(x z:Hp)(H:Nat→Bool):Nat→Hp
 | 0=>z
 | k+1=>if dueB x H k=true then { dueTo x z H k with cells:=(dueTo x z H k).cells.set k (dueC (x.c k)) } else dueTo x z H k
def dueN(x:Hp)(H:Nat→Bool):Nat→Nat
 | 0=>0
 | k+1=>if dueB x H k=true then dueN x H k+1 else dueN x H k
def settleH(x:Hp)(H:Nat→Bool):Hp:=dueTo x (cutTo x H x.cells.length) H x.cells.length
def stlC(x:Hp)(H:Nat→Bool)(i:Nat):Cl:=if H i=true then letC x H (x.c i) else if (x.c i).last=1 then dueC (x.c i) else x.c i
theorem cutTo_len(x:Hp)(H:Nat→Bool):∀k,(cutTo x H k).cells.length=x.cells.length
 | 0=>rfl
 | k+1=>by
  unfold cutTo
  split
  ·simp [cutTo_len x H k]
  ·exact cutTo_len x H k
theorem cutTo_c(x:Hp)(H:Nat→Bool):∀k,k≤x.cells.length→∀q,(cutTo x H k).c q=if q<k∧H q=true then letC x H (x.c q) else x.c q
 | 0,_,q=>by rw[if_neg (by omega)];rfl
 | k+1,hk,q=>by
  have ih:=cutTo_c x H k (by omega) q;unfold cutTo;by_cases h:H k=true
  ·rw[if_pos h];have:=Hp.c_set (cutTo x H k) k (letC x H (x.c k)) (by rw[cutTo_len];omega) q;have e:({ cutTo x H k with cells:=(cutTo x H k).cells.set k (letC x H (x.c k)),used:=(cutTo x H k).used-goes x H (x.c k) (x.c k).prs,sub:=letSub x H k (cutTo x H k).sub }:Hp).c q=({ cutTo x H k with cells:=(cutTo x H k).cells.set k (letC x H (x.c k)) }:Hp).c q:=rfl;rw[e,this];by_cases eq:q=k
   ·rw[if_pos eq,eq,if_pos ⟨by omega,h⟩]
   ·rw[if_neg eq,ih];by_cases h2:q<k∧H q=true
    ·rw[if_pos h2,if_pos ⟨by omega,h2.2⟩]
    ·rw[if_neg h2,if_neg (fun h3=>h2 ⟨by omega,h3.2⟩)]
  ·rw[if_neg h,ih];by_cases h2:q<k∧H q=true
   ·rw[if_pos h2,if_pos ⟨by omega,h2.2⟩]
   ·rw[if_neg h2,if_neg (fun h3=>by
     by_cases eq:q=k
     ·rw[eq] at h3;exact h h3.2
     ·exact h2 ⟨by omega,h3.2⟩)]
def CellW(x:Hp)(i:Nat):Prop:=
 ((x.c i).st=0∧Bare (x.c i)∧(x.c i).to=0)∨((x.c i).st=2∧MovedOk x i (x.c i))∨((x.c i).st=1∧UsedOk { x with born:=(x.c i).born } (x.c i))
def R2w(x:Hp):Prop:=(∀i,i<x.cells.length→CellW x i)∧Apart x
theorem Leads.mayW{x:Hp}{y:Wd}{m:Prop}(h:Leads x y m)(r2:R2w x):MayMark x y:=fun hk=>by
 have hf:=h.1;unfold Formed at hf;have hr:y.n=0∧0≤y.a∧y.a<x.cells.length:=by omega
 refine⟨hr.1,hr.2.1,hr.2.2,fun h2=>?_,?_⟩
 ·have:=r2.1 y.a.toNat (by omega);unfold CellW MovedOk at this;omega
 ·rcases h.2 hk with⟨h1,_⟩ | ⟨h1,h3⟩
  ·have hc:=r2.1 y.a.toNat (by omega);unfold CellW at hc;rcases hc with hc | hc | hc
   ·omega
   ·have hm:=hc.2;unfold MovedOk at hm;have e:tgt x y=(x.c y.a.toNat).to.toNat:=by unfold tgt lead2;rw[if_pos (by simp [h1])]
    rw[e];exact⟨by omega,hm.2.2.2.2.1,fun d=>by have:=d.1;omega⟩
   ·omega
  ·have e:tgt x y=y.a.toNat:=by unfold tgt lead2;rw[if_neg (by simp [h1])]
   rw[e];exact⟨by omega,h1,h3⟩
theorem may_regW{x:Hp}(r2:R2w x)(r4:R4 x)(k:Nat)(h:k<x.regs.length):MayMark x x.regs[k]:=(r4.1 k h).mayW r2
theorem may_pairW{x:Hp}(r2:R2w x)(r4:R4 x)(j p:Nat)(hj:Good x j)(hp:p<(x.c j).prs.length):MayMark x ((x.c j).p p).key∧MayMark x ((x.c j).p p).val:=by
 have:=((r4.2 j hj.1).2 p hp).2 hj.2.2;exact⟨this.1.mayW r2,this.2.mayW r2⟩
theorem Reached.goodW{x:Hp}(r2:R2w x)(r4:R4 x){i:Nat}(h:Reached x i):Good x i:=by
 exact h (Good x) (fun k h hk=>(may_regW r2 r4 k h hk).2.2.2.2) (fun i hi hs h=>good_want r4 i hi hs h) (fun j p ih hp hk=>((may_pairW r2 r4 j p ih hp).1 hk).2.2.2.2) (fun j p ih hp hk=>((may_pairW r2 r4 j p ih hp).2 hk).2.2.2.2)
theorem speaks_usedW{x:Hp}(r2:R2w x)(i:Nat)(hi:i<x.cells.length)(h:Speaks (x.c i)):(x.c i).st=1:=by
 have:=r2.1 i hi;unfold Speaks at h;unfold CellW MovedOk Bare at this;omega
theorem wants_natW{x:Hp}(r2:R2w x){M:List Int}(hp:M.Perm (wants x x.cells.length))(hs:SrtI x M):∃N:List Nat,M=zs N∧IsW x N:=by
 have hm:∀z,z∈M→∃q:Nat,z=(q:Int)∧q<x.cells.length∧Speaks (x.c q):=fun z hz=>by
  obtain⟨q,h1,h2,e⟩:=(valsTo_mem _ _ _ _).1 (hp.mem_iff.1 hz);exact⟨q,e.symm,h1,(wantB_iff.1 h2).2⟩
 have e:M=zs (M.map Int.toNat):=by
  unfold zs;rw[List.map_map]
  conv=>lhs;rw[←List.map_id M]
  refine List.map_congr_left fun z hz=>?_
  obtain⟨q,rfl,_⟩:=hm z hz;simp
 refine⟨M.map Int.toNat,e,⟨fun i=>?_,?_,fun i j hi hj hij=>?_⟩⟩
 ·constructor
  ·intro h;obtain⟨z,hz,rfl⟩:=List.mem_map.1 h;obtain⟨q,rfl,h1,h2⟩:=hm z hz
   simpa using ⟨h1,h2⟩
  ·rintro⟨h1,h2⟩;refine List.mem_map.2 ⟨(i:Int),hp.mem_iff.2 ((valsTo_mem _ _ _ _).2 ⟨i,h1,wantB_iff.2 ⟨speaks_usedW r2 i h1 h2,h2⟩,rfl⟩),by simp⟩
 ·have nd:M.Nodup:=by
   refine hp.nodup_iff.2 ?_;exact List.Pairwise.map castI (fun(a b:Nat) (h:a≠b) e=>h (by unfold castI at e;omega)) (List.Pairwise.filter _ List.nodup_range)
  rw[e] at nd;exact List.Pairwise.of_map (S:=fun a b=>a≠b) (fun i:Nat=>(i:Int)) (fun a b h e=>h (by rw[e])) nd
 ·have:=hs i j hij (by simpa using hj);unfold bo at this;simp only [List.getElem_map];rw[←it_eq M i (by simpa using hi),←it_eq M j (by simpa using hj)] at this;exact this
theorem wantO_isW{x:Hp}(r2:R2w x){N:List Nat}(hN:IsW x N)(k:Nat)(hk:k≤N.length):(∀i,i∈wantO x N k→Reached x i)∧(wantO x N k).Nodup∧(∀j (h:j<x.regs.length),x.regs[j].k=2→tgt x x.regs[j]∈wantO x N k)∧∀j (h:j<N.length),j<k→N[j]∈wantO x N k:=by
 induction k with
 | zero=>
  obtain⟨a,b,c⟩:=regO_is (x:=x) x.regs.length (Nat.le_refl _);exact⟨a,b,fun j h e=>c j h h e,fun j _ h=>by omega⟩
 | succ k ih=>
  obtain⟨a,b,c,d⟩:=ih (by omega);rw[wantO_step k (by omega)];refine⟨fun i hi=>?_,ad_nd b,fun j h e=>ad_sub (c j h e),fun j h hj=>?_⟩
  ·rcases ad_mem hi with q | q
   ·exact a i q
   ·cases q;have:=(hN.m N[k]).1 (List.getElem_mem (by omega));exact Reached.last _ this.1 (speaks_usedW r2 _ this.1 this.2) this.2
  ·by_cases z:j=k
   ·subst z;exact ad_has
   ·exact ad_sub (d j h (by omega))
theorem ord_isW{x:Hp}(r2:R2w x)(r4:R4 x){N:List Nat}(hN:IsW x N):OrdIs x (ordO x N):=by
 obtain⟨a,b,c,d⟩:=wantO_isW r2 hN N.length (Nat.le_refl _);obtain⟨e,f,g,h⟩:=clO_is (fun i hi=>(hi.goodW r2 r4).1) (x.cells.length+1) 0 (wantO x N N.length) (by omega) (Nat.zero_le _) a b (fun q _ h=>by omega);refine⟨e,f,fun k hk z=>h _ (c k hk z),fun i hi hs=>?_,g⟩;obtain⟨q,hq,z⟩:=List.getElem_of_mem ((hN.m i).2 ⟨hi,hs⟩);have:=h _ (d q hq hq);rw[z] at this;exact this
theorem IsW.uniqW{x:Hp}(r2:R2w x){N N':List Nat}(h:IsW x N)(k:IsW x N'):N=N':=by
 refine List.Perm.eq_of_pairwise (le:=fun a b=>(x.c a).born≤(x.c b).born) (fun a b ha hb l1 l2=>?_) (List.pairwise_iff_getElem.2 h.s) (List.pairwise_iff_getElem.2 k.s) ((List.perm_ext_iff_of_nodup h.nd k.nd).2 (fun i=>by rw[h.m,k.m]));have a1:=(h.m a).1 ha;have b1:=(k.m b).1 hb;have sa:=speaks_usedW r2 a a1.1 a1.2;have sb:=speaks_usedW r2 b b1.1 b1.2;have ta:(x.c a).to=0:=by rcases r2.1 a a1.1 with z | z | z;omega;omega;exact z.2.2.2.2.2.2.1
 have tb:(x.c b).to=0:=by rcases r2.1 b b1.1 with z | z | z;omega;omega;exact z.2.2.2.2.2.2.1
 rcases Nat.lt_trichotomy a b with q | q | q
 ·exact(r2.2 b b1.1 (by omega) a q ⟨by omega,by omega,by omega⟩).elim
 ·exact q
 ·exact(r2.2 a a1.1 (by omega) b q ⟨by omega,by omega,by omega⟩).elim
end Go.Proofs.YtddkhnclmeikfaaGreat
