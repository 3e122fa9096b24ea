import Derived.Test.YtddkhnclmeikfaaGreatJk
import Derived.Test.YtddkhnclmeikfaaGreatFb2
namespace Go.Proofs.YtddkhnclmeikfaaGreat
open Go.RowKit
attribute [local go_sem ↓] Go.wp_at_zero Go.wp_at_succ
def nodeV(b n:Nat):List Value:=[iv 0,iv 0,iv 0,iv 0,.slice (some ⟨b,0,none⟩) n n]
def rowsI(T:List (List Pr))(pb:Nat→Nat):List Value:=(List.range T.length).flatMap (fun i=>nodeV (pb i) (tI T i).length)
structure KW where
 S:Nat→Prop
 W:World
structure IW(K:KW)(B:Nat)(w:World)(s:Nat)(R:Int)(g:List Wd)(T:List (List Pr))(br:Nat)(vt:Value)(pb:Nat→Nat):Prop where
 bs:B≤s∧B≤br∧s≠br
 nfs:Nf1 s w
 nfb:Nf1 br w
 c0:w.cell? ⟨s,0,none⟩=some (iv R)
 c1:w.cell? ⟨s,1,none⟩=some (.slice (some ⟨br,0,none⟩) 16 16)
 c2:w.cell? ⟨s,2,none⟩=some vt
 gl:g.length=16
 rg:∀i,i<16→WdAt w br (i*3) (rI g i)
 row:w.ownsRow B 99 5 vt T.length (rowsI T pb)
 rs:vt.ownBlock≠some s∧vt.ownBlock≠some br
 pn:∀i,i<T.length→B≤pb i∧Nf1 (pb i) w∧pb i≠s∧pb i≠br∧vt.ownBlock≠some (pb i)
 ij:∀i j,i<T.length→j<T.length→pb i=pb j→i=j
 pr:∀i,i<T.length→∀k,k<(tI T i).length→PrAt w (pb i) (k*6) (pI (tI T i) k)
 kq:∀k,K.S k→k<w.heap.size∧w.heap[k]?=K.W.heap[k]?∧k≠s∧k≠br∧vt.ownBlock≠some k∧∀i,i<T.length→k≠pb i
section
variable {K : KW} {B : Nat} {w w' : World} {s : Nat} {R : Int} {g : List Wd} {T : List (List Pr)} {br : Nat} {vt : Value} {pb : Nat → Nat}
theorem IW.form(h:IW K B w s R g T br vt pb):∃ad kt,vt=.slice ad T.length kt∧IR w.heap.size w s R g T br ad kt pb:=by
 obtain⟨ad,kt,e,_,q⟩:=own_cells (f:=fun i=>nodeV (pb i) (tI T i).length) (c:=5) (fun _=>rfl) (L:=List.range T.length) (by simpa [rowsI] using h.row);simp only [List.length_range] at e q;refine⟨ad,kt,e,⟨h.nfs.1,h.nfb.1⟩,h.c0,h.c1,by rw[←e];exact h.c2,h.rg,fun i hi=>?_⟩;obtain⟨b,e2,_,lt,c⟩:=q i hi;have c':∀j,j<5→w.cell? ⟨b,i*5+j,none⟩=(nodeV (pb i) (tI T i).length)[j]?:=fun j hj=>by have:=c j hj;simpa using this
 exact⟨b,e2,⟨lt,(h.pn i hi).2.1.1⟩,c' 0 (by omega),c' 1 (by omega),c' 2 (by omega),c' 3 (by omega),c' 4 (by omega),h.pr i hi⟩
theorem IW.blk(h:IW K B w s R g T br vt pb)(hs:w.heap.size≤w'.heap.size)(e:∀q,q<w.heap.size→(q=s∨q=br∨vt.ownBlock=some q∨(∃i,i<T.length∧q=pb i)∨K.S q)→w'.heap[q]?=w.heap[q]?):IW K B w' s R g T br vt pb:=by
 have k:∀q,q<w.heap.size→(q=s∨q=br∨vt.ownBlock=some q∨(∃i,i<T.length∧q=pb i)∨K.S q)→∀j v,w.cell? ⟨q,j,none⟩=some v→w'.cell? ⟨q,j,none⟩=some v:=fun q l m j v c=>(World.cell?_of_block (a:=⟨q,j,none⟩) (e q l m)).trans c
 have es:=k s h.nfs.1 (.inl rfl);have eb:=k br h.nfb.1 (.inr (.inl rfl));have nf:∀q,Nf1 q w→(q=s∨q=br∨vt.ownBlock=some q∨(∃i,i<T.length∧q=pb i)∨K.S q)→Nf1 q w':=fun q n m=>⟨Nat.lt_of_lt_of_le n.1 hs,fun j=>(World.frozen?_of_block (a:=⟨q,j,none⟩) (e q n.1 m)).trans (n.2 j)⟩
 exact⟨h.bs,nf _ h.nfs (.inl rfl),nf _ h.nfb (.inr (.inl rfl)),es _ _ h.c0,es _ _ h.c1,es _ _ h.c2,h.gl,fun i hi=>let ⟨a0,a1,a2⟩:=h.rg i hi;⟨eb _ _ a0,eb _ _ a1,eb _ _ a2⟩,ownsRow_of_block h.row (fun q hq=>e q (h.row.lt q hq).2 (.inr (.inr (.inl hq)))),h.rs,
  fun i hi=>let p:=h.pn i hi;⟨p.1,nf _ p.2.1 (.inr (.inr (.inr (.inl ⟨i,hi,rfl⟩)))),p.2.2⟩,h.ij,fun i hi q hq=>by
   have ep:=k (pb i) (h.pn i hi).2.1.1 (.inr (.inr (.inr (.inl ⟨i,hi,rfl⟩))));obtain⟨a0,a1,a2,a3,a4,a5⟩:=h.pr i hi q hq;exact⟨ep _ _ a0,ep _ _ a1,ep _ _ a2,ep _ _ a3,ep _ _ a4,ep _ _ a5⟩,fun q kk=>let z:=h.kq q kk;⟨Nat.lt_of_lt_of_le z.1 hs,(e q z.1 (.inr (.inr (.inr (.inr kk))))).trans z.2.1,z.2.2⟩⟩
theorem IW.ext(h:IW K B w s R g T br vt pb)(e:Ext w w'):IW K B w' s R g T br vt pb:=h.blk e.size (fun q l _=>e.block q l)
theorem rI_set(g:List Wd)(a:Nat)(u:Wd)(ha:a<g.length)(i:Nat):rI (g.set a u) i=if i=a then u else rI g i:=by
 unfold rI;simp only [List.getD_eq_getElem?_getD,List.getElem?_set];by_cases e:i=a
 ·subst e;simp [ha]
 ·rw[if_neg (fun q=>e q.symm),if_neg e]
theorem IW.reg(h:IW K B w s R g T br vt pb)(a:Nat)(ha:a<16)(u:Wd):IW K B (wordO w br (a*3) u) s R (g.set a u) T br vt pb:=by
 have on:=wordO_only w br (a*3) u;have z:∀q,q<w.heap.size→q≠br→(wordO w br (a*3) u).heap[q]?=w.heap[q]?:=fun q l n=>on.block q l n
 have k:∀q,q<w.heap.size→q≠br→∀j v,w.cell? ⟨q,j,none⟩=some v→(wordO w br (a*3) u).cell? ⟨q,j,none⟩=some v:=fun q l m j v c=>(World.cell?_of_block (a:=⟨q,j,none⟩) (z q l m)).trans c
 have es:=k s h.nfs.1 h.bs.2.2;have nf:∀q,Nf1 q w→q≠br→Nf1 q (wordO w br (a*3) u):=fun q n m=>⟨Nat.lt_of_lt_of_le n.1 on.size,fun j=>(World.frozen?_of_block (a:=⟨q,j,none⟩) (z q n.1 m)).trans (n.2 j)⟩
 refine⟨h.bs,nf _ h.nfs h.bs.2.2,wordO_nf h.nfb _ _,es _ _ h.c0,es _ _ h.c1,es _ _ h.c2,by simp [h.gl],fun i hi=>?_,ownsRow_of_block h.row (fun q hq=>z q (h.row.lt q hq).2 (fun e=>h.rs.2 (e ▸ hq))),h.rs,
  fun i hi=>let p:=h.pn i hi;⟨p.1,nf _ p.2.1 p.2.2.2.1,p.2.2⟩,h.ij,fun i hi q hq=>?_,fun q kk=>let y:=h.kq q kk;⟨Nat.lt_of_lt_of_le y.1 on.size,(z q y.1 y.2.2.2.1).trans y.2.1,y.2.2⟩⟩
 ·rw[rI_set g a u (by rw[h.gl];exact ha)];by_cases e:i=a
  ·subst e;rw[if_pos rfl];exact wordO_at w br (i*3) u _ (h.rg i hi)
  ·rw[if_neg e];obtain⟨a0,a1,a2⟩:=h.rg i hi;exact⟨by rw[wordO_other _ _ _ _ _ (by omega)];exact a0,by rw[wordO_other _ _ _ _ _ (by omega)];exact a1,by rw[wordO_other _ _ _ _ _ (by omega)];exact a2⟩
 ·have ep:=k (pb i) (h.pn i hi).2.1.1 (h.pn i hi).2.2.2.1;obtain⟨a0,a1,a2,a3,a4,a5⟩:=h.pr i hi q hq;exact⟨ep _ _ a0,ep _ _ a1,ep _ _ a2,ep _ _ a3,ep _ _ a4,ep _ _ a5⟩
theorem tI_set(T:List (List Pr))(i:Nat)(l:List Pr)(hi:i<T.length)(q:Nat):tI (T.set i l) q=if q=i then l else tI T q:=by
 unfold tI;simp only [List.getD_eq_getElem?_getD,List.getElem?_set];by_cases e:q=i
 ·subst e;simp [hi]
 ·rw[if_neg (fun z=>e z.symm),if_neg e]
theorem pI_set(l:List Pr)(c:Nat)(p:Pr)(hc:c<l.length)(k:Nat):pI (l.set c p) k=if k=c then p else pI l k:=by
 unfold pI;simp only [List.getD_eq_getElem?_getD,List.getElem?_set];by_cases e:k=c
 ·subst e;simp [hc]
 ·rw[if_neg (fun z=>e z.symm),if_neg e]
def putV(T:List (List Pr))(i c:Nat)(u:Wd):List (List Pr):=T.set i ((tI T i).set c ⟨(pI (tI T i) c).key,u⟩)
theorem putV_tI(T:List (List Pr))(i c:Nat)(u:Wd)(hi:i<T.length)(q:Nat):tI (putV T i c u) q=if q=i then (tI T i).set c ⟨(pI (tI T i) c).key,u⟩ else tI T q:=tI_set T i _ hi q
theorem putV_len(T:List (List Pr))(i c:Nat)(u:Wd)(hi:i<T.length)(q:Nat):(tI (putV T i c u) q).length=(tI T q).length:=by
 rw[putV_tI T i c u hi];split
 ·rename_i e;rw[e];simp
 ·rfl
theorem IW.val(h:IW K B w s R g T br vt pb)(i c:Nat)(hi:i<T.length)(hc:c<(tI T i).length)(u:Wd):IW K B (wordO w (pb i) (c*6+3) u) s R g (putV T i c u) br vt pb:=by
 have on:=wordO_only w (pb i) (c*6+3) u;have p0:=h.pn i hi;have z:∀q,q<w.heap.size→q≠pb i→(wordO w (pb i) (c*6+3) u).heap[q]?=w.heap[q]?:=fun q l n=>on.block q l n
 have k:∀q,q<w.heap.size→q≠pb i→∀j v,w.cell? ⟨q,j,none⟩=some v→(wordO w (pb i) (c*6+3) u).cell? ⟨q,j,none⟩=some v:=fun q l m j v c=>(World.cell?_of_block (a:=⟨q,j,none⟩) (z q l m)).trans c
 have nf:∀q,Nf1 q w→Nf1 q (wordO w (pb i) (c*6+3) u):=fun q n=>by
  by_cases e:q=pb i
  ·rw[e] at n ⊢;exact wordO_nf n _ _
  ·exact⟨Nat.lt_of_lt_of_le n.1 on.size,fun j=>(World.frozen?_of_block (a:=⟨q,j,none⟩) (z q n.1 e)).trans (n.2 j)⟩
 have es:=k s h.nfs.1 (fun e=>p0.2.2.1 e.symm);have eb:=k br h.nfb.1 (fun e=>p0.2.2.2.1 e.symm);have ln:(putV T i c u).length=T.length:=by simp [putV]
 have rw_:rowsI (putV T i c u) pb=rowsI T pb:=by
  unfold rowsI;rw[ln];have:(fun q=>nodeV (pb q) (tI (putV T i c u) q).length)=fun q=>nodeV (pb q) (tI T q).length:=by funext q;rw[putV_len T i c u hi]
  rw[this]
 refine⟨h.bs,nf _ h.nfs,nf _ h.nfb,es _ _ h.c0,es _ _ h.c1,es _ _ h.c2,h.gl,fun q hq=>let ⟨a0,a1,a2⟩:=h.rg q hq;⟨eb _ _ a0,eb _ _ a1,eb _ _ a2⟩,by rw[ln,rw_];exact ownsRow_of_block h.row (fun q hq=>z q (h.row.lt q hq).2 (fun e=>p0.2.2.2.2 (e ▸ hq))),h.rs,
  fun q hq=>by rw[ln] at hq;have p:=h.pn q hq;exact⟨p.1,nf _ p.2.1,p.2.2⟩,fun a b ha hb=>by rw[ln] at ha hb;exact h.ij a b ha hb,fun q hq m hm=>?_,fun q kk=>let y:=h.kq q kk;⟨Nat.lt_of_lt_of_le y.1 on.size,(z q y.1 (y.2.2.2.2.2 i hi)).trans y.2.1,y.2.2.1,y.2.2.2.1,y.2.2.2.2.1,by rw[ln];exact y.2.2.2.2.2⟩⟩
 rw[ln] at hq;rw[putV_len T i c u hi] at hm;rw[putV_tI T i c u hi];by_cases e:q=i
 ·subst e;rw[if_pos rfl,pI_set _ _ _ hc];by_cases e2:m=c
  ·subst e2;rw[if_pos rfl];exact wordO_val w (pb q) (m*6) (pI (tI T q) m) u (h.pr q hq m hm)
  ·rw[if_neg e2];obtain⟨a0,a1,a2,a3,a4,a5⟩:=h.pr q hq m hm;exact⟨by rw[wordO_other _ _ _ _ _ (by omega)];exact a0,by rw[wordO_other _ _ _ _ _ (by omega)];exact a1,by rw[wordO_other _ _ _ _ _ (by omega)];exact a2,by rw[wordO_other _ _ _ _ _ (by omega)];exact a3,by rw[wordO_other _ _ _ _ _ (by omega)];exact a4,by rw[wordO_other _ _ _ _ _ (by omega)];exact a5⟩
 ·rw[if_neg e];have ep:=k (pb q) (h.pn q hq).2.1.1 (fun z=>e (h.ij q i hq hi z));obtain⟨a0,a1,a2,a3,a4,a5⟩:=h.pr q hq m hm;exact⟨ep _ _ a0,ep _ _ a1,ep _ _ a2,ep _ _ a3,ep _ _ a4,ep _ _ a5⟩
theorem IW.key{K':KW}(h:IW K B w s R g T br vt pb)(kq:∀k,K'.S k→k<w.heap.size∧w.heap[k]?=K'.W.heap[k]?∧k≠s∧k≠br∧vt.ownBlock≠some k∧∀i,i<T.length→k≠pb i):IW K' B w s R g T br vt pb:=⟨h.bs,h.nfs,h.nfb,h.c0,h.c1,h.c2,h.gl,h.rg,h.row,h.rs,h.pn,h.ij,h.pr,kq⟩
end
end Go.Proofs.YtddkhnclmeikfaaGreat
