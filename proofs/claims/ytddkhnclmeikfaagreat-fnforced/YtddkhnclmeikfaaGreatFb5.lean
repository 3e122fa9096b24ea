import Derived.Test.YtddkhnclmeikfaaGreatFb4
namespace Go.Proofs.YtddkhnclmeikfaaGreat
open Go.RowKit
attribute [local go_sem ↓] Go.wp_at_zero Go.wp_at_succ
theorem infoNd:(Tryz.prog.info? 99).map (fun i=>(i.zero,i.size,i.bytes))=some (some (.agg #[iv 0,iv 0,iv 0,iv 0,.slice none 0 0]),5,56):=by kernel_rfl
structure AppN(B:Nat)(w:World)(vt:Value)(T:List (List Pr))(pb:Nat→Nat)(p c q cap:Nat)(w':World):Prop where
 ow:w'.ownsRow B 99 5 (.slice (some ⟨q,0,none⟩) (T.length+1) cap) (T.length+1) (rowsI T pb++nodeV p c)
 on:Only (fun k=>vt.ownBlock=some k) w w'
 at_:vt.ownBlock=some q∨p+1≤q
 np:NewP w w' p c
theorem step_appN{ops:Array Oper}{o:Oper}{a:Act}{K:Act→World→Prop}{Q:Exit→Act→World→Prop}{E:Prop}(W:World)(hgd:o.guard=none)(s0 y:Operand)
  (ho:o.op=.call { callee:=.builtin .append,args:=#[s0,y],argTypes:=#[42,42] })
  {K0:KW} {B:Nat} {w:World} {s:Nat} {R:Int} {g:List Wd} {T:List (List Pr)} {br:Nat} {vt:Value} {pb:Nat→Nat} (h:IW K0 B w s R g T br vt pb) (p c:Nat) (e:Ext w W) (np:NewP w W p c) (hpW:p+1≤W.heap.size) (hT:T.length≤2000) (ad:Addr) (hs:a.eval s0=vt) (hy:a.eval y=.slice (some ad) 1 1) (hn:∀j u,(nodeV p c)[j]?=some u→W.cell? (ad.add j)=some u)
  (hK:∀q cap w',AppN B w vt T pb p c q cap w'→K (a.put o.dst (.slice (some ⟨q,0,none⟩) (T.length+1) cap)) w') :
  if Region.wanted o (yielded ops a.tmps)=true then Oper.wp Tryz.prog o a W K Q else E:=by
 obtain⟨i0,hi0,hz0,hz1,hz2⟩:=info_parts infoNd;have hB:B≤W.heap.size:=by have:=h.bs.1;have:=h.nfs.1;have:=e.size;omega
 refine step_append_lies (w:=W) hgd s0 y 42 ho B 99 i0 (.agg #[iv 0,iv 0,iv 0,iv 0,.slice none 0 0]) 5 56 Tryz.underlying42 hi0 hz0 hz1 hz2 rfl (by decide) vt T.length (rowsI T pb) hs (ownsRow_of_block h.row (fun q hq=>e.block q (h.row.lt q hq).2)) ad 1 1 (nodeV p c) hy rfl hn (fun u hu=>?_) (by decide) (by unfold maxLen;omega) (by omega) hB _ rfl (fun q cap w' how hgr hat hlt=>hK q cap w' ⟨how,?_,?_,?_⟩)
 ·simp [nodeV] at hu;rcases hu with e | e <;> subst e <;> rfl
 ·exact(Only.of_ext e).trans ⟨hgr.os,hgr.tape,hgr.output,hgr.size,fun q hq hne=>hgr.block q hq (fun e=>hne e.symm)⟩
 ·rcases hat with f | f
  ·exact .inl f
  ·exact .inr (by omega)
 ·exact np.only (S:=fun k=>vt.ownBlock=some k) ⟨hgr.os,hgr.tape,hgr.output,hgr.size,fun q hq hne=>hgr.block q hq (fun e=>hne e.symm)⟩ (fun e=>by have:=(h.row.lt p e).2;have:=np.lt;omega)
theorem tI_app(T:List (List Pr))(l:List Pr)(q:Nat):tI (T++[l]) q=if q=T.length then l else tI T q:=by
 unfold tI;simp only [List.getD_eq_getElem?_getD];by_cases e:q=T.length
 ·subst e;simp
 ·rw[if_neg e];rcases Nat.lt_or_ge q T.length with k | k
  ·rw[List.getElem?_append_left k]
  ·rw[List.getElem?_eq_none (by simp;omega),List.getElem?_eq_none (by omega)]
theorem flatMap_eq{f g:Nat→List Value}:∀(l:List Nat),(∀i,i∈l→f i=g i)→l.flatMap f=l.flatMap g
 | [],_=>rfl
 | a::l,h=>by rw[List.flatMap_cons,List.flatMap_cons,h a (by simp),flatMap_eq l (fun i hi=>h i (by simp [hi]))]
theorem rowsI_app(T:List (List Pr))(pb:Nat→Nat)(l:List Pr)(p:Nat):rowsI (T++[l]) (fun i=>if i=T.length then p else pb i)=rowsI T pb++nodeV p l.length:=by
 unfold rowsI;rw[List.length_append,List.length_singleton,List.range_succ,List.flatMap_append]
 congr 1
 ·refine flatMap_eq _ (fun i hi=>?_);have:i<T.length:=by simpa using hi
  simp only [if_neg (show ¬i=T.length by omega),tI_app]
 ·simp [tI_app]
theorem IW.push{K:KW}{B:Nat}{w w':World}{s:Nat}{R:Int}{g:List Wd}{T:List (List Pr)}{br:Nat}{vt:Value}{pb:Nat→Nat}{p c q cap:Nat}(h:IW K B w s R g T br vt pb)(a:AppN B w vt T pb p c q cap w'):IW K B (w'.setCell ⟨s,2,none⟩ (.slice (some ⟨q,0,none⟩) (T.length+1) cap)) s R g (T++[List.replicate c Pr0]) br (.slice (some ⟨q,0,none⟩) (T.length+1) cap) (fun i=>if i=T.length then p else pb i):=by
 have s1:=h.nfs.1;have b1:=h.nfb.1;have p0:=a.np.lt;have B0:=h.bs;have ln:(T++[List.replicate c Pr0]).length=T.length+1:=by simp
 have bl:∀k,k<w.heap.size→vt.ownBlock≠some k→k≠s→(w'.setCell ⟨s,2,none⟩ (.slice (some ⟨q,0,none⟩) (T.length+1) cap)).heap[k]?=w.heap[k]?:=fun k l n m=>by rw[Below.heap_setCell _ _ _ _ m];exact a.on.block k l n
 have sz:w.heap.size≤(w'.setCell ⟨s,2,none⟩ (.slice (some ⟨q,0,none⟩) (T.length+1) cap)).heap.size:=by simpa [World.setCell] using a.on.size
 have ks:∀j x,j≠2→w.cell? ⟨s,j,none⟩=some x→(w'.setCell ⟨s,2,none⟩ (.slice (some ⟨q,0,none⟩) (T.length+1) cap)).cell? ⟨s,j,none⟩=some x:=fun j x n k=>by
  rw[cell_other _ (.inr (Ne.symm n))];exact(World.cell?_of_block (a:=⟨s,j,none⟩) (a.on.block s s1 h.rs.1)).trans k
 have kb:∀k,k<w.heap.size→vt.ownBlock≠some k→k≠s→∀j x,w.cell? ⟨k,j,none⟩=some x→(w'.setCell ⟨s,2,none⟩ (.slice (some ⟨q,0,none⟩) (T.length+1) cap)).cell? ⟨k,j,none⟩=some x:=fun k l n m j x e=>(World.cell?_of_block (a:=⟨k,j,none⟩) (bl k l n m)).trans e
 have nfk:∀k,Nf1 k w→vt.ownBlock≠some k→k≠s→Nf1 k (w'.setCell ⟨s,2,none⟩ (.slice (some ⟨q,0,none⟩) (T.length+1) cap)):=fun k n m z=>⟨Nat.lt_of_lt_of_le n.1 sz,fun j=>(World.frozen?_of_block (a:=⟨k,j,none⟩) (bl k n.1 m z)).trans (n.2 j)⟩
 have qs:q≠s∧q≠br∧(∀i,i<T.length→q≠pb i)∧q≠p:=by
  rcases a.at_ with e | e
  ·exact⟨fun z=>h.rs.1 (z ▸ e),fun z=>h.rs.2 (z ▸ e),fun i hi z=>(h.pn i hi).2.2.2.2 (z ▸ e),fun z=>by have:=(h.row.lt q e).2;omega⟩
  ·exact⟨by omega,by omega,fun i hi=>by have:=(h.pn i hi).2.1.1;omega,by omega⟩
 have ob:∀k,(Value.slice (some ⟨q,0,none⟩) (T.length+1) cap).ownBlock≠some k↔q≠k:=fun k=>by simp [Value.ownBlock]
 have np:=a.np
 have npz:∀k,k<c→PrAt (w'.setCell ⟨s,2,none⟩ (.slice (some ⟨q,0,none⟩) (T.length+1) cap)) p (k*6) Pr0:=fun k hk=>by
  obtain⟨a0,a1,a2,a3,a4,a5⟩:=np.z k hk;have z:∀j x,w'.cell? ⟨p,j,none⟩=some x→(w'.setCell ⟨s,2,none⟩ (.slice (some ⟨q,0,none⟩) (T.length+1) cap)).cell? ⟨p,j,none⟩=some x:=fun j x e=>by rw[cell_other _ (.inl (by show s≠p;omega))];exact e
  exact⟨z _ _ a0,z _ _ a1,z _ _ a2,z _ _ a3,z _ _ a4,z _ _ a5⟩
 have nfp:Nf1 p (w'.setCell ⟨s,2,none⟩ (.slice (some ⟨q,0,none⟩) (T.length+1) cap)):=⟨by have:=np.nf.1;simpa [World.setCell] using this,fun j=>by rw[World.frozen?_setCell];exact np.nf.2 j⟩;have nfs':Nf1 s w':=⟨Nat.lt_of_lt_of_le s1 a.on.size,fun j=>(World.frozen?_of_block (a:=⟨s,j,none⟩) (a.on.block s s1 h.rs.1)).trans (h.nfs.2 j)⟩;refine⟨B0,nfs'.set _ _,nfk br h.nfb h.rs.2 (fun e=>B0.2.2 e.symm),ks 0 _ (by omega) h.c0,ks 1 _ (by omega) h.c1,?_,h.gl,fun i hi=>?_,?_,⟨(ob _).2 qs.1,(ob _).2 qs.2.1⟩,fun i hi=>?_,fun i j hi hj e=>?_,fun i hi k hk=>?_,fun k kk=>?_⟩
 ·exact World.cell?_setCell_same _ _ _ ((World.cell?_of_block (a:=⟨s,2,none⟩) (a.on.block s s1 h.rs.1)).trans h.c2)
 ·obtain⟨a0,a1,a2⟩:=h.rg i hi;have e:=kb br b1 h.rs.2 (fun e=>B0.2.2 e.symm);exact⟨e _ _ a0,e _ _ a1,e _ _ a2⟩
 ·rw[ln,rowsI_app,List.length_replicate];exact ownsRow_of_block a.ow (fun k hk=>Below.heap_setCell _ _ _ _ (fun e=>by simp only at e;rw[e] at hk;exact((ob s).2 qs.1) hk))
 ·rw[ln] at hi;by_cases e:i=T.length
  ·simp only [e,if_true];exact⟨by omega,nfp,by omega,by omega,(ob _).2 qs.2.2.2⟩
  ·simp only [if_neg e];have pn:=h.pn i (by omega);exact⟨pn.1,nfk _ pn.2.1 pn.2.2.2.2 pn.2.2.1,pn.2.2.1,pn.2.2.2.1,(ob _).2 (qs.2.2.1 i (by omega))⟩
 ·rw[ln] at hi hj;by_cases e1:i=T.length
  ·by_cases e2:j=T.length
   ·omega
   ·simp only [if_pos e1,if_neg e2] at e;have:=(h.pn j (by omega)).2.1.1;omega
  ·by_cases e2:j=T.length
   ·simp only [if_neg e1,if_pos e2] at e;have:=(h.pn i (by omega)).2.1.1;omega
   ·simp only [if_neg e1,if_neg e2] at e;exact h.ij i j (by omega) (by omega) e
 ·rw[ln] at hi;rw[tI_app] at hk ⊢;by_cases e:i=T.length
  ·simp only [if_pos e] at hk ⊢;rw[List.length_replicate] at hk;have:pI (List.replicate c Pr0) k=Pr0:=by unfold pI;rw[List.getD_eq_getElem?_getD,List.getElem?_replicate,if_pos hk];rfl
   rw[this];exact npz k hk
  ·simp only [if_neg e] at hk ⊢;have pn:=h.pn i (by omega);have z:=kb (pb i) pn.2.1.1 pn.2.2.2.2 pn.2.2.1;obtain⟨a0,a1,a2,a3,a4,a5⟩:=h.pr i (by omega) k hk;exact⟨z _ _ a0,z _ _ a1,z _ _ a2,z _ _ a3,z _ _ a4,z _ _ a5⟩
 ·obtain⟨k1,k2,k3,k4,k5,k6⟩:=h.kq k kk;refine⟨Nat.lt_of_lt_of_le k1 sz,(bl k k1 k5 k3).trans k2,k3,k4,(ob _).2 (fun z=>?_),fun i hi=>?_⟩
  ·rcases a.at_ with e | e
   ·exact k5 (z ▸ e)
   ·omega
  ·rw[ln] at hi;by_cases e:i=T.length
   ·simp only [if_pos e];omega
   ·simp only [if_neg e];exact k6 i (by omega)
end Go.Proofs.YtddkhnclmeikfaaGreat
