import Derived.Test.YtddkhnclmeikfaaGreatLr
import Derived.Test.YtddkhnclmeikfaaGreatDa
import Derived.Laws.CopyRow
import Derived.Laws.EntriesVeiled
import Derived.Laws.Pointers
import Derived.Laws.ResultCell
import Derived.MapKept
set_option maxRecDepth 100000
set_option maxHeartbeats 4000000
namespace Go.Proofs.YtddkhnclmeikfaaGreat
open Go.RowKit
attribute [local go_sem ↓] Go.wp_at_zero Go.wp_at_succ
theorem infoWords:(Tryz.prog.info? 152).map (fun i=>(i.zero,i.size,i.bytes))=some (some (.agg #[iv 0,iv 0,iv 0]),3,24):=by kernel_rfl
theorem infoPairs:(Tryz.prog.info? 154).map (fun i=>(i.zero,i.size,i.bytes))=some (some (.agg #[iv 0,iv 0,iv 0,iv 0,iv 0,iv 0]),6,48):=by kernel_rfl
theorem infoInts:(Tryz.prog.info? 3).map (fun i=>(i.zero,i.size,i.bytes))=some (some (iv 0),1,8):=by kernel_rfl
theorem mkInts(n:Nat)(hn:n≤1048576)(w:World):∃z,(Instr.makeSlice 32 (.int .i64 n) (.int .i64 n)).run Tryz.prog w=.ok (.slice (some ⟨w.heap.size,0,none⟩) n n) (w.alloc (.cells (madeCells z (n*1)) 3)):=by
 obtain⟨i0,hi,hz0,hz1,hz2⟩:=info_parts infoInts;have h:=run_make (P:=Tryz.prog) w 32 3 i0 _ Tryz.underlying32 hi hz0 .i64 .i64 n n (by omega) (Int.le_refl _) (by rw[hz2];omega) (by omega);rw[hz1] at h;simp only [Int.toNat_natCast] at h;exact⟨_,h⟩
theorem infoCells:(Tryz.prog.info? 62).map (fun i=>(i.zero,i.size,i.bytes))=some (some (.agg #[iv 0,iv 0,iv 0,iv 0,iv 0,iv 0,iv 0,.slice none 0 0]),8,80):=by kernel_rfl
theorem mkCells(n:Nat)(hn:n≤1048576)(w:World):∃z,(Instr.makeSlice 31 (.int .i64 n) (.int .i64 n)).run Tryz.prog w=.ok (.slice (some ⟨w.heap.size,0,none⟩) n n) (w.alloc (.cells (madeCells z (n*8)) 62)):=by
 obtain⟨i0,hi,hz0,hz1,hz2⟩:=info_parts infoCells;have h:=run_make (P:=Tryz.prog) w 31 62 i0 _ Tryz.underlying31 hi hz0 .i64 .i64 n n (by omega) (Int.le_refl _) (by rw[hz2];omega) (by omega);rw[hz1] at h;simp only [Int.toNat_natCast] at h;exact⟨_,h⟩
def resW(x:Hp)(y:Wd):Wd:=if y.k=2∧(x.c y.a.toNat).st=2 then ⟨2,0,(x.c y.a.toNat).to⟩ else y
abbrev ptr(bn p:Nat):Value:=.pointer (some ⟨bn,p,none⟩)
theorem run_sameAddr_block{P:Program}(w:World)(bn p q:Nat):(sameAddr ⟨bn,p,none⟩ ⟨bn,q,none⟩).run P w=.ok (p == q) w:=by
 have:((⟨bn,p,none⟩:Addr) == ⟨bn,q,none⟩)=(p == q):=by
  rw[Bool.eq_iff_iff];simp
 simp [sameAddr,this]
theorem run_equalIn_ptr{P:Program}(w:World)(d:Nat)(t e:TypeId)(i:TypeInfo)(ht:P.underlying t=some (.pointer e))(hi:P.info? e=some i)(hs:i.size≠0)(bn p q:Nat):
  (Op.equalIn (d+1) t (ptr bn p) (ptr bn q)).run P w=.ok (p == q) w:=by
 simp [Op.equalIn,run_underlying ht,sizeOf,typeInfo,hi,hs,run_sameAddr_block]
theorem run_equal_ptr{P:Program}(w:World)(t e:TypeId)(i:TypeInfo)(ht:P.underlying t=some (.pointer e))(hi:P.info? e=some i)(hs:i.size≠0)(bn p q:Nat):
  (Op.equal t (ptr bn p) (ptr bn q)).run P w=.ok (p == q) w:=run_equalIn_ptr w 9999 t e i ht hi hs bn p q
def KeysAre(bn:Nat)(Q:List Nat)(l:List MapEntry):Prop:=l.map (·.key)=Q.map (ptr bn)∧∀e,e∈l→e.val=.agg #[]
theorem find_ptr{P:Program}(w:World)(t e:TypeId)(i:TypeInfo)(ht:P.underlying t=some (.pointer e))(hi:P.info? e=some i)(hs:i.size≠0)(bn p:Nat):
  ∀(l:List MapEntry) (Q:List Nat) (k:Nat),KeysAre bn Q l→∃r,(Instr.findAsking t (ptr bn p) l k).run P w=.ok r w∧((p∈Q∧∃j,r=some (j,.agg #[]))∨(¬p∈Q∧r=none))
 | [],Q,k,h=>by
  have:Q=[]:=by simpa using h.1.symm
  subst this;exact⟨none,by simp [Instr.findAsking],.inr ⟨by simp,rfl⟩⟩
 | x::l,Q,k,h=>by
  cases Q with
  | nil=>have:=h.1;simp at this
  | cons q Q=>
   have h1:=h.1;simp only [List.map_cons,List.cons.injEq] at h1;have hv:=h.2 x List.mem_cons_self;by_cases e:p=q
   ·subst e;refine⟨some (k,.agg #[]),?_,.inl ⟨List.mem_cons_self,k,rfl⟩⟩;simp [Instr.findAsking,h1.1,run_equal_ptr w t _ i ht hi hs,hv]
   ·obtain⟨r,hr,ho⟩:=find_ptr w t _ i ht hi hs bn p l Q (k+1) ⟨h1.2,fun y hy=>h.2 y (List.mem_cons_of_mem _ hy)⟩;refine⟨r,?_,?_⟩
    ·simp [Instr.findAsking,h1.1,run_equal_ptr w t _ i ht hi hs,e,hr]
    ·rcases ho with⟨m,j⟩ | ⟨m,j⟩
     ·exact .inl ⟨List.mem_cons_of_mem _ m,j⟩
     ·exact .inr ⟨by simp [e,m],j⟩
theorem findNow_ptr(e:TypeId)(k:Value)(l:List MapEntry):Instr.findNow (.pointer e) k l 0=(if l=[] then some none else none):=by
 cases l with
 | nil=>rfl
 | cons x l=>simp [Instr.findNow,Instr.sameNow]
theorem findKey_ptr{P:Program}(w:World)(t e:TypeId)(i:TypeInfo)(ht:P.underlying t=some (.pointer e))(hi:P.info? e=some i)(hs:i.size≠0)(bn p:Nat)(l:List MapEntry)(Q:List Nat)(h:KeysAre bn Q l):
  ∃r,(Instr.findKey t (ptr bn p) l).run P w=.ok r w∧((p∈Q∧∃j,r=some (j,.agg #[]))∨(¬p∈Q∧r=none)):=by
 obtain⟨r,hr,ho⟩:=find_ptr w t e i ht hi hs bn p l Q 0 h;by_cases hl:l=[]
 ·subst hl;have:Q=[]:=by simpa using h.1.symm
  subst this;exact⟨none,by simp [Instr.findKey,run_underlying ht,findNow_ptr],.inr ⟨by simp,rfl⟩⟩
 ·refine⟨r,?_,ho⟩;simp [Instr.findKey,run_underlying ht,findNow_ptr,hl,hr]
theorem checkKeyN_ptr{P:Program}(w:World)(d:Nat)(t e:TypeId)(ht:P.underlying t=some (.pointer e))(em:Bool)(v:Option Addr):(Instr.checkKey em (d+1) t (.pointer v)).run P w=.ok () w:=by
 simp [Instr.checkKey,run_underlying ht]
theorem checkKey_ptr{P:Program}(w:World)(t e:TypeId)(ht:P.underlying t=some (.pointer e))(em:Bool)(v:Option Addr):(Instr.checkKey em 10000 t (.pointer v)).run P w=.ok () w:=checkKeyN_ptr w 9999 t e ht em v
structure MapAt(w:World)(r bn:Nat)(Q:List Nat):Prop where
 mk' ::
 m:∃es clock,w.heap[r]?=some (.map es clock)∧KeysAre bn Q es.toList
theorem MapAt.block{w w':World}{r bn:Nat}{Q:List Nat}(h:MapAt w r bn Q)(e:w'.heap[r]?=w.heap[r]?):MapAt w' r bn Q:=by
 obtain⟨es,c,h1,h2⟩:=h.m;exact⟨es,c,e.trans h1,h2⟩
theorem MapAt.lookup{P:Program}{w:World}{r bn:Nat}{Q:List Nat}(h:MapAt w r bn Q){mt t e et:TypeId}{i:TypeInfo}(hm:P.underlying mt=some (.map t et))(ht:P.underlying t=some (.pointer e))(hi:P.info? e=some i)(hs:i.size≠0)(hz:∀w,(zeroValue et).run P w=.ok (.agg #[]) w)(p:Nat):
  (Instr.lookup mt (.map (some r)) (ptr bn p) true).run P w=.ok (.tuple #[.agg #[],.bool (decide (p∈Q))]) w:=by
 obtain⟨es,c,h1,h2⟩:=h.m;obtain⟨f,hf,ho⟩:=findKey_ptr w t e i ht hi hs bn p es.toList Q h2;rcases ho with⟨m,j,rfl⟩ | ⟨m,rfl⟩
 ·simp [Instr.lookup,run_underlying hm,MapKept.run_getObj_map h1,checkKey_ptr w t e ht,hf,m]
 ·simp [Instr.lookup,run_underlying hm,MapKept.run_getObj_map h1,checkKey_ptr w t e ht,hf,m,hz]
theorem MapAt.update{P:Program}{w:World}{r bn:Nat}{Q:List Nat}(h:MapAt w r bn Q){mt t e et:TypeId}{i:TypeInfo}(hm:P.underlying mt=some (.map t et))(ht:P.underlying t=some (.pointer e))(hi:P.info? e=some i)(hs:i.size≠0)(p:Nat)(hp:¬p∈Q):
  ∃w',(Instr.mapUpdate mt (.map (some r)) (ptr bn p) (.agg #[])).run P w=.ok () w'∧MapAt w' r bn (Q++[p])∧w'.os=w.os∧w'.tape=w.tape∧w'.output=w.output∧w'.heap.size=w.heap.size∧(∀k:Nat,k≠r→w'.heap[k]?=w.heap[k]?):=by
 obtain⟨es,c,h1,h2⟩:=h.m;obtain⟨f,hf,ho⟩:=findKey_ptr w t e i ht hi hs bn p es.toList Q h2;rcases ho with⟨m,_⟩ | ⟨_,rfl⟩
 ·exact(hp m).elim
 ·have hlt:r<w.heap.size:=by
   rcases Nat.lt_or_ge r w.heap.size with q | q
   ·exact q
   ·rw[Array.getElem?_eq_none q] at h1;cases h1
  refine⟨{ w with heap:=w.heap.setIfInBounds r (.map (es.push { key:=ptr bn p,val:=.agg #[],born:=c }) (c+1)) },?_,⟨es.push { key:=ptr bn p,val:=.agg #[],born:=c },c+1,?_,?_⟩,rfl,rfl,rfl,by simp,fun k hk=>?_⟩
  ·simp [Instr.mapUpdate,run_underlying hm,MapKept.run_getObj_map h1,checkKey_ptr w t e ht,hf,MapKept.run_setObj_map _ h1]
  ·show(w.heap.setIfInBounds r _)[r]?=_;rw[Array.getElem?_setIfInBounds,if_pos rfl,if_pos hlt]
  ·refine⟨?_,fun y hy=>?_⟩
   ·simp [h2.1]
   ·simp at hy;rcases hy with hy | hy
    ·exact h2.2 y (by simpa using hy)
    ·rw[hy]
  ·show(w.heap.setIfInBounds r _)[k]?=_;rw[Array.getElem?_setIfInBounds,if_neg (fun e=>hk e.symm)]
def EntAre(bn on:Nat)(f:Nat→Value)(Q:List Nat)(l:List MapEntry):Prop:=l.map (fun e=>(e.key,e.val))=Q.map (fun k=>(ptr bn (on+k*2),f k))
theorem findF{P:Program}(w:World)(t e:TypeId)(i:TypeInfo)(ht:P.underlying t=some (.pointer e))(hi:P.info? e=some i)(hs:i.size≠0)(bn on:Nat)(f:Nat→Value)(k:Nat):
  ∀(l:List MapEntry) (Q:List Nat) (m:Nat),EntAre bn on f Q l→∃r,(Instr.findAsking t (ptr bn (on+k*2)) l m).run P w=.ok r w∧((∃j,r=some (m+j,f k)∧Q[j]?=some k)∨(¬k∈Q∧r=none))
 | [],Q,m,h=>by
  have:Q=[]:=by simpa [EntAre] using h.symm
  subst this;exact⟨none,by simp [Instr.findAsking],.inr ⟨by simp,rfl⟩⟩
 | x::l,Q,m,h=>by
  cases Q with
  | nil=>simp [EntAre] at h
  | cons q Q=>
   simp only [EntAre,List.map_cons,List.cons.injEq,Prod.mk.injEq] at h;obtain⟨⟨h1,h2⟩,h3⟩:=h;by_cases e:k=q
   ·subst e;refine⟨some (m,f k),?_,.inl ⟨0,rfl,rfl⟩⟩;simp [Instr.findAsking,h1,run_equal_ptr w t _ i ht hi hs,h2]
   ·obtain⟨r,hr,ho⟩:=findF w t _ i ht hi hs bn on f k l Q (m+1) h3;have ne:¬(k*2=q*2):=by omega
    refine⟨r,?_,?_⟩
    ·simp [Instr.findAsking,h1,run_equal_ptr w t _ i ht hi hs,ne,hr]
    ·rcases ho with⟨j,hj,hq⟩ | ⟨n,hj⟩
     ·exact .inl ⟨j+1,by rw[hj];congr 2;omega,by simpa using hq⟩
     ·exact .inr ⟨by simp [e,n],hj⟩
theorem findKeyF{P:Program}(w:World)(t e:TypeId)(i:TypeInfo)(ht:P.underlying t=some (.pointer e))(hi:P.info? e=some i)(hs:i.size≠0)(bn on:Nat)(f:Nat→Value)(k:Nat)(l:List MapEntry)(Q:List Nat)(h:EntAre bn on f Q l):
  ∃r,(Instr.findKey t (ptr bn (on+k*2)) l).run P w=.ok r w∧((∃j,r=some (j,f k)∧Q[j]?=some k)∨(¬k∈Q∧r=none)):=by
 obtain⟨r,hr,ho⟩:=findF w t e i ht hi hs bn on f k l Q 0 h;by_cases hl:l=[]
 ·subst hl;have:Q=[]:=by simpa [EntAre] using h.symm
  subst this;exact⟨none,by simp [Instr.findKey,run_underlying ht,findNow_ptr],.inr ⟨by simp,rfl⟩⟩
 ·refine⟨r,?_,by simpa using ho⟩;simp [Instr.findKey,run_underlying ht,findNow_ptr,hl,hr]
structure MapF(w:World)(r bn on:Nat)(f:Nat→Value):Prop where
 mk' ::
 m:∃es clock Q,w.heap[r]?=some (.map es clock)∧EntAre bn on f Q es.toList∧Q.Nodup∧∀k,¬k∈Q→f k=.slice none 0 0
theorem MapF.block{w w':World}{r bn on:Nat}{f:Nat→Value}(h:MapF w r bn on f)(e:w'.heap[r]?=w.heap[r]?):MapF w' r bn on f:=by
 obtain⟨es,c,Q,h1,h2⟩:=h.m;exact⟨es,c,Q,e.trans h1,h2⟩
theorem MapF.lt{w:World}{r bn on:Nat}{f:Nat→Value}(h:MapF w r bn on f):r<w.heap.size:=by
 obtain⟨es,c,Q,h1,_⟩:=h.m;rcases Nat.lt_or_ge r w.heap.size with q | q
 ·exact q
 ·rw[Array.getElem?_eq_none q] at h1;cases h1
theorem MapF.lookup{P:Program}{w:World}{r bn on:Nat}{f:Nat→Value}(h:MapF w r bn on f){mt t e et:TypeId}{i:TypeInfo}(hm:P.underlying mt=some (.map t et))(ht:P.underlying t=some (.pointer e))(hi:P.info? e=some i)(hs:i.size≠0)(hz:∀w,(zeroValue et).run P w=.ok (.slice none 0 0) w)(k:Nat):
  (Instr.lookup mt (.map (some r)) (ptr bn (on+k*2)) false).run P w=.ok (f k) w:=by
 obtain⟨es,c,Q,h1,h2,h3,h4⟩:=h.m;obtain⟨g,hg,ho⟩:=findKeyF w t e i ht hi hs bn on f k es.toList Q h2;rcases ho with⟨j,rfl,hj⟩ | ⟨n,rfl⟩
 ·simp [Instr.lookup,run_underlying hm,MapKept.run_getObj_map h1,checkKey_ptr w t e ht,hg]
 ·simp [Instr.lookup,run_underlying hm,MapKept.run_getObj_map h1,checkKey_ptr w t e ht,hg,hz,h4 k n]
theorem EntAre.at{bn on:Nat}{f:Nat→Value}{Q:List Nat}{l:List MapEntry}(h:EntAre bn on f Q l)(i:Nat):(l[i]?).map (fun e=>(e.key,e.val))=(Q[i]?).map (fun k=>(ptr bn (on+k*2),f k)):=by
 rw[←List.getElem?_map,←List.getElem?_map,h]
theorem MapF.update{P:Program}{w:World}{r bn on:Nat}{f:Nat→Value}(h:MapF w r bn on f){mt t e et:TypeId}{i:TypeInfo}(hm:P.underlying mt=some (.map t et))(ht:P.underlying t=some (.pointer e))(hi:P.info? e=some i)(hs:i.size≠0)(k:Nat)(v:Value):
  ∃w',(Instr.mapUpdate mt (.map (some r)) (ptr bn (on+k*2)) v).run P w=.ok () w'∧MapF w' r bn on (fun q=>if q=k then v else f q)∧w'.os=w.os∧w'.tape=w.tape∧w'.output=w.output∧w'.heap.size=w.heap.size∧(∀q:Nat,q≠r→w'.heap[q]?=w.heap[q]?):=by
 have hlt:=h.lt;obtain⟨es,c,Q,h1,h2,h3,h4⟩:=h.m;obtain⟨g,hg,ho⟩:=findKeyF w t e i ht hi hs bn on f k es.toList Q h2;rcases ho with⟨j,rfl,hj⟩ | ⟨n,rfl⟩
 ·have hat:=h2.at j;rw[hj] at hat
  obtain⟨en,hen⟩:∃en,es.toList[j]?=some en:=by
   cases q:es.toList[j]? with
   | none=>rw[q] at hat;simp at hat
   | some en=>exact⟨en,rfl⟩
  have hen2:es[j]?=some en:=by simpa using hen
  rw[hen] at hat;simp only [Option.map_some,Option.some.injEq,Prod.mk.injEq] at hat;refine⟨{ w with heap:=w.heap.setIfInBounds r (.map (es.modify j fun e=>{ e with key:=ptr bn (on+k*2),val:=v }) c) },?_,⟨es.modify j fun e=>{ e with key:=ptr bn (on+k*2),val:=v },c,Q,?_,?_,h3,fun q hq=>?_⟩,rfl,rfl,rfl,by simp,fun q hq=>?_⟩
  ·simp [Instr.mapUpdate,run_underlying hm,MapKept.run_getObj_map h1,checkKey_ptr w t e ht,hg,MapKept.run_setObj_map _ h1,hen2,hat.1,Instr.keyThatStays,Instr.sameBits]
  ·show(w.heap.setIfInBounds r _)[r]?=_;rw[Array.getElem?_setIfInBounds,if_pos rfl,if_pos hlt]
  ·unfold EntAre;apply List.ext_getElem?;intro m;rw[List.getElem?_map,List.getElem?_map,Array.toList_modify,List.getElem?_modify];have hm2:=h2.at m;by_cases em:j=m
   ·subst em;rw[hj,hen];simp
   ·cases qm:Q[m]? with
    | none=>rw[qm] at hm2;simp at hm2;simp [em,hm2]
    | some q=>
     rw[qm] at hm2
     have nq:q≠k:=fun e=>by
      subst e
      have:=(List.getElem?_inj (i:=j) (j:=m) (l:=Q) (by
       rcases Nat.lt_or_ge j Q.length with z | z
       ·exact z
       ·rw[List.getElem?_eq_none z] at hj;cases hj) h3).1 (by rw[hj,qm])
      exact em this
     simp only [em,if_false,nq,Option.map_some]
     simpa using hm2
  ·rw[if_neg (fun e=>by subst e;exact hq (List.mem_of_getElem? hj))];exact h4 q hq
  ·show(w.heap.setIfInBounds r _)[q]?=_;rw[Array.getElem?_setIfInBounds,if_neg (fun e=>hq e.symm)]
 ·refine⟨{ w with heap:=w.heap.setIfInBounds r (.map (es.push { key:=ptr bn (on+k*2),val:=v,born:=c }) (c+1)) },?_,⟨es.push { key:=ptr bn (on+k*2),val:=v,born:=c },c+1,Q++[k],?_,?_,?_,fun q hq=>?_⟩,rfl,rfl,rfl,by simp,fun q hq=>?_⟩
  ·simp [Instr.mapUpdate,run_underlying hm,MapKept.run_getObj_map h1,checkKey_ptr w t e ht,hg,MapKept.run_setObj_map _ h1]
  ·show(w.heap.setIfInBounds r _)[r]?=_;rw[Array.getElem?_setIfInBounds,if_pos rfl,if_pos hlt]
  ·unfold EntAre;have e2:Q.map (fun q=>(ptr bn (on+q*2),if q=k then v else f q))=Q.map (fun q=>(ptr bn (on+q*2),f q)):=List.map_congr_left (fun q hq=>by rw[if_neg (show ¬q=k from fun z=>n (z ▸ hq))]);have h2':es.toList.map (fun e=>(e.key,e.val))=Q.map (fun k=>(ptr bn (on+k*2),f k)):=h2;simp [e2,h2']
  ·rw[List.nodup_append];exact⟨h3,by simp,fun a ha b hb=>by simp at hb;rw[hb];intro e;exact n (e ▸ ha)⟩
  ·simp only [List.mem_append,List.mem_singleton,not_or] at hq;rw[if_neg hq.2];exact h4 q hq.1
  ·show(w.heap.setIfInBounds r _)[q]?=_;rw[Array.getElem?_setIfInBounds,if_neg (fun e=>hq e.symm)]
def actRa(op:Int):Bool:=!(op == 18 || op == 20 || op == 21 || op == 22 || op == 23 || op == 24)
def actRb(op:Int):Bool:=op == 4 || op == 5 || op == 6 || op == 7 || op == 8 || op == 13
def actB(op:Int):Int:=if op=1 then 255 else if actRb op=true then 15 else if op=23 then 64 else 0
def actC(op:Int):Int:=if op=1∨op=9∨op=10 then 200 else if 5≤op∧op≤8 then 199 else if op=11 then 3 else if op=12 then 1 else if op=22 then 100000 else if op=23 then 4000 else 0
def actA(op:Int):Int:=if actRa op=true then 15 else 0
def actOkB(op a b c n:Int):Bool:=decide ((1≤op∧op≤24)∧(n=0∨op=2)) && (decide (0≤a∧a≤actA op) && (decide (0≤b∧b≤actB op) && decide (0≤c∧c≤actC op)))
abbrev actV(op a b c n:Int):Value:=.agg #[iv op,iv a,iv b,iv c,iv n]
theorem within_r(n lo hi:Int)(r:Bool)(h:withinB n lo hi=r)(w:World):Calls Tryz.prog 78 #[.int .i64 n,.int .i64 lo,.int .i64 hi] w fun e w'=>e=.returned (.bool r)∧w'=w:=h ▸ within_any n lo hi w
def wayL:List Value:=[iv 0,iv 0,iv 0,.nilFunc,iv 15,iv 255,iv 200,.func (.func 292) #[] #[],iv 15,iv 0,iv 0,.func (.func 293) #[] #[],iv 15,iv 0,iv 0,.func (.func 294) #[] #[],iv 15,iv 15,iv 0,.func (.func 295) #[] #[],iv 15,iv 15,iv 199,.func (.func 296) #[] #[],iv 15,iv 15,iv 199,.func (.func 296) #[] #[],iv 15,iv 15,iv 199,.func (.func 297) #[] #[],iv 15,iv 15,iv 199,.func (.func 297) #[] #[],iv 15,iv 0,iv 200,.func (.func 298) #[] #[],iv 15,iv 0,iv 200,.func (.func 299) #[] #[],iv 15,iv 0,iv 3,.func (.func 300) #[] #[],iv 15,iv 0,iv 1,.func (.func 301) #[] #[],iv 15,iv 15,iv 0,.func (.func 302) #[] #[],iv 15,iv 0,iv 0,.func (.func 303) #[] #[],iv 15,iv 0,iv 0,.func (.func 304) #[] #[],iv 15,iv 0,iv 0,.func (.func 305) #[] #[],iv 15,iv 0,iv 0,.func (.func 306) #[] #[],iv 0,iv 0,iv 0,.func (.func 307) #[] #[],iv 15,iv 0,iv 0,.func (.func 308) #[] #[],iv 0,iv 0,iv 0,.func (.func 309) #[] #[],iv 0,iv 0,iv 0,.func (.func 310) #[] #[],iv 0,iv 0,iv 100000,.func (.func 311) #[] #[],iv 0,iv 64,iv 4000,.func (.func 312) #[] #[],iv 0,iv 0,iv 0,.func (.func 313) #[] #[]]
def wayF(op:Int):Nat:=if op=1 then 292 else if op=2 then 293 else if op=3 then 294 else if op=4 then 295 else if op=5 then 296 else if op=6 then 296 else if op=7 then 297 else if op=8 then 297 else if op=9 then 298 else if op=10 then 299 else if op=11 then 300 else if op=12 then 301 else if op=13 then 302 else if op=14 then 303 else if op=15 then 304 else if op=16 then 305 else if op=17 then 306 else if op=18 then 307 else if op=19 then 308 else if op=20 then 309 else if op=21 then 310 else if op=22 then 311 else if op=23 then 312 else 313
theorem wayL_at(k:Nat)(h1:1≤k)(h2:k≤24):wayL[k*4]?=some (iv (actA k))∧wayL[k*4+1]?=some (iv (actB k))∧wayL[k*4+2]?=some (iv (actC k))∧wayL[k*4+3]?=some (.func (.func (wayF k)) #[] #[]):=by
 have h:k=1∨k=2∨k=3∨k=4∨k=5∨k=6∨k=7∨k=8∨k=9∨k=10∨k=11∨k=12∨k=13∨k=14∨k=15∨k=16∨k=17∨k=18∨k=19∨k=20∨k=21∨k=22∨k=23∨k=24:=by omega
 rcases h with rfl | rfl | rfl | rfl | rfl | rfl | rfl | rfl | rfl | rfl | rfl | rfl | rfl | rfl | rfl | rfl | rfl | rfl | rfl | rfl | rfl | rfl | rfl | rfl <;> exact⟨rfl,rfl,rfl,rfl⟩
theorem store_row{P:Program}{o:Oper}{a:Act}{K:Act→World→Prop}{Q:Exit→Act→World→Prop}(W:World)(g:Nat)(cur:Array Value)(t:TypeId)(L L':List Value)(hL:L=L')(hg:W.heap[g]?=some (.cells cur t (0,0)))(hl:L'.length=cur.size)(h1:L'.all (·.oneCell')=true)(hk:∀W',W'=W.setRow g L'.toArray→Oper.upon P o a K Q (.ok .skip W')):
  Oper.upon P o a K Q (((storeCells ⟨g,0,none⟩ L).run P W).andThen fun _ w'=>.ok .skip w'):=by
 subst hL;have:=run_storeCells_at (P:=P) g 0 t L 0 cur W hg (by omega) (fun v hv=>List.all_eq_true.1 h1 v hv);rw[this];refine hk _ ?_;have e:List.drop (0+0+L.length) cur.toList=[]:=List.drop_eq_nil_of_le (by simp [hl]);rw[e];simp
theorem heap_third(w:World)(o1 o2 o3:Obj):(((w.alloc o1).alloc o2).alloc o3).heap[w.heap.size+1+1]?=some o3:=by
 have:=heap_alloc_new ((w.alloc o1).alloc o2) o3
 simpa using this
structure TabAt(w W:World)(op a b c n:Int):Prop where
 a0:W.cell? ⟨w.heap.size,0,none⟩=some (iv op)
 a1:W.cell? ⟨w.heap.size,1,none⟩=some (iv a)
 a2:W.cell? ⟨w.heap.size,2,none⟩=some (iv b)
 a3:W.cell? ⟨w.heap.size,3,none⟩=some (iv c)
 a4:W.cell? ⟨w.heap.size,4,none⟩=some (iv n)
 v0:W.cell? ⟨w.heap.size+1,0,none⟩=some (iv 0)
 v1:W.cell? ⟨w.heap.size+1,1,none⟩=some (iv 0)
 v2:W.cell? ⟨w.heap.size+1,2,none⟩=some (iv 0)
 v3:W.cell? ⟨w.heap.size+1,3,none⟩=some .nilFunc
 fz:∀j,W.frozen? ⟨w.heap.size+1,j,none⟩=false
 t:∀j,W.cell? ⟨w.heap.size+1+1,j,none⟩=wayL[j]?
 ex:Ext w W
theorem TabAt.of(w W:World)(op a b c n:Int)(t1 t2 t3:TypeId)(cur:Array Value)(hW:W=(((w.alloc (.cells #[iv op,iv a,iv b,iv c,iv n] t1)).alloc (.cells #[iv 0,iv 0,iv 0,.nilFunc] t2)).alloc (.cells cur t3)).setRow (w.heap.size+1+1) wayL.toArray):TabAt w W op a b c n:=by
 have o0:∀k,k≠w.heap.size+1+1→W.heap[k]?=(((w.alloc (.cells #[iv op,iv a,iv b,iv c,iv n] t1)).alloc (.cells #[iv 0,iv 0,iv 0,.nilFunc] t2)).alloc (.cells cur t3)).heap[k]?:=fun k hk=>by rw[hW];exact setRow_other _ _ k _ hk
 have c0:∀j,W.cell? ⟨w.heap.size,j,none⟩=#[iv op,iv a,iv b,iv c,iv n][j]?:=fun j=>by
  rw[World.cell?_of_block (a:=⟨w.heap.size,j,none⟩) (o0 w.heap.size (by omega))];refine cell_of_row _ w.heap.size j _ t1 (0,0) ?_;rw[Below.heap_alloc _ _ _ (by simp;omega),Below.heap_alloc _ _ _ (by simp)];exact heap_alloc_new w _
 have e1:W.heap[w.heap.size+1]?=some (.cells #[iv 0,iv 0,iv 0,.nilFunc] t2):=by
  rw[o0 _ (by omega),Below.heap_alloc _ _ _ (by simp)];have:=heap_alloc_new (w.alloc (.cells #[iv op,iv a,iv b,iv c,iv n] t1)) (.cells #[iv 0,iv 0,iv 0,.nilFunc] t2);have e:(w.alloc (.cells #[iv op,iv a,iv b,iv c,iv n] t1)).heap.size=w.heap.size+1:=by simp
  rw[e] at this;exact this
 have c1:∀j,W.cell? ⟨w.heap.size+1,j,none⟩=#[iv 0,iv 0,iv 0,.nilFunc][j]?:=fun j=>cell_of_row _ _ j _ t2 (0,0) e1
 have e2:W.heap[w.heap.size+1+1]?=some (.cells wayL.toArray t3):=by
  rw[hW];exact setRow_heap _ _ cur _ t3 _ (heap_third _ _ _ _)
 refine⟨c0 0,c0 1,c0 2,c0 3,c0 4,c1 0,c1 1,c1 2,c1 3,fun j=>?_,fun j=>?_,?_⟩
 ·unfold World.frozen?;simp [e1]
 ·rw[cell_of_row _ _ j _ t3 (0,0) e2];simp
 ·rw[hW];exact Below.trans (((Ext.refl w).alloc _).alloc _ |>.alloc _) ⟨rfl,rfl,rfl,by simp [World.setRow],fun k hk=>setRow_other _ _ k _ (by omega)⟩
theorem ext_drawn{a w:World}(h:Ext a w)(n:Nat):Ext a (w.drewN n):=⟨h.os,h.tape,h.output,h.size,fun k hk=>h.block k hk⟩
theorem set_self(w:World)(p:Addr)(v:Value)(h:w.cell? p=some v):w.setCell p v=w:=by
 have key:(w.setCell p v).heap=w.heap:=by
  unfold World.cell? at h;unfold World.setCell;apply Array.ext_getElem?;intro i;rw[Array.getElem?_modify];by_cases e:p.block=i
  ·subst e;rw[if_pos rfl];cases hh:w.heap[p.block]? with
   | none=>rfl
   | some o=>
    rw[hh] at h;cases o with
    | cells c t f=>
     simp only at h;by_cases hs:p.spot.isSome=true
     ·simp [hs] at h
     ·simp only [hs] at h;simp only [Option.map_some,hs]
      congr 1
      have hc:c.setIfInBounds p.off v=c:=by
       apply Array.ext_getElem?;intro k;rw[Array.getElem?_setIfInBounds];by_cases e2:p.off=k
       ·subst e2;rw[if_pos rfl];have:=(Array.getElem?_eq_some_iff.1 h).1;rw[if_pos this];exact h.symm
       ·rw[if_neg e2]
      simp [hc]
    | _=>simp at h
  ·rw[if_neg e]
 unfold World.setCell at key ⊢;simp only at key;rw[key]
theorem wayOf_in(k:Nat)(a b c n:Int)(w:World)(h1:1≤k)(h2:k≤24)(h3:(n != 0)=false∨((n != 0)=true∧((k:Int) != 2)=false))(r:Bool)(hr:(decide (0≤a∧a≤actA k) && (decide (0≤b∧b≤actB k) && decide (0≤c∧c≤actC k)))=r):Calls Tryz.prog 285 #[actV k a b c n] w fun e w'=>e=.returned (.tuple #[.agg #[iv (actA k),iv (actB k),iv (actC k),.func (.func (wayF k)) #[] #[]],.bool r])∧Ext w w':=by
 have QO:=hide (fun W=>within_r k 1 24 true (by simp [withinB];omega) W);have LL:=hide (wayL_at k h1 h2);have k0:(0:Int)≤(k:Int):=by omega
 have k1:(k:Int)<25:=by omega
 obtain⟨am,ea⟩:∃v,v=actA k:=⟨_,rfl⟩;obtain⟨bm,eb⟩:∃v,v=actB k:=⟨_,rfl⟩;obtain⟨cm,ec⟩:∃v,v=actC k:=⟨_,rfl⟩;obtain⟨fm,ef⟩:∃v,v=wayF k:=⟨_,rfl⟩;rw[←ea,←eb,←ec,←ef] at LL;rw[←ea,←eb,←ec] at hr;rw[←ea,←eb,←ec,←ef];have HR:=hide hr;clear ea eb ec ef hr h1 h2;go_enter Tryz.func285,Tryz.ntmps285;go_wp2_with fail;refine store_row _ _ _ _ _ wayL (by kernel_rfl) (heap_third _ _ _ _) (by kernel_rfl) (by kernel_rfl) ?_;intro W4 hW4;have T:=TabAt.of _ _ _ _ _ _ _ _ _ _ _ hW4;clear hW4;obtain⟨a0,a1,a2,a3,a4,v0,v1,v2,v3,fz,tt,ex⟩:=T;have t0:=(tt (k*4)).trans (unhide LL).1;have t1:=(tt (k*4+1)).trans (unhide LL).2.1;have t2:=(tt (k*4+2)).trans (unhide LL).2.2.1;have t3:=(tt (k*4+3)).trans (unhide LL).2.2.2;have X:=hide ex;clear tt ex LL;simp only [Oper.upon];rcases h3 with h3 | h3
 ·have q2:=h3;clear h3;go_wp2_with (go_at_call 78;refine(unhide QO _).mono ?_;rintro e w2 ⟨rfl,hw2⟩;rw[hw2];clear hw2 w2);obtain⟨W5,hW5⟩:∃W,W=((((W4.setCell ⟨w.heap.size+1,0,none⟩ (iv am)).setCell ⟨w.heap.size+1,1,none⟩ (iv bm)).setCell ⟨w.heap.size+1,2,none⟩ (iv cm)).setCell ⟨w.heap.size+1,3,none⟩ (.func (.func fm) #[] #[])):=⟨_,rfl⟩;have d0:W5.cell? ⟨w.heap.size+1,0,none⟩=some (iv am):=by rw[hW5];simp [go_sem,v0]
  have d1:W5.cell? ⟨w.heap.size+1,1,none⟩=some (iv bm):=by rw[hW5];simp [go_sem,v1]
  have d2:W5.cell? ⟨w.heap.size+1,2,none⟩=some (iv cm):=by rw[hW5];simp [go_sem,v2]
  have d3:W5.cell? ⟨w.heap.size+1,3,none⟩=some (.func (.func fm) #[] #[]):=by rw[hW5];simp [go_sem,v3]
  have b1:W5.cell? ⟨w.heap.size,1,none⟩=some (iv a):=by rw[hW5];simp [go_sem,a1]
  have b2:W5.cell? ⟨w.heap.size,2,none⟩=some (iv b):=by rw[hW5];simp [go_sem,a2]
  have b3:W5.cell? ⟨w.heap.size,3,none⟩=some (iv c):=by rw[hW5];simp [go_sem,a3]
  have f5:∀j,W5.frozen? ⟨w.heap.size+1,j,none⟩=false:=fun j=>by rw[hW5];simp [go_sem,fz]
  have X5:=hide (show Ext w W5 by rw[hW5];exact((((unhide X).setCell (p:=⟨w.heap.size+1,0,none⟩) (Nat.le_succ _) _).setCell (p:=⟨w.heap.size+1,1,none⟩) (Nat.le_succ _) _).setCell (p:=⟨w.heap.size+1,2,none⟩) (Nat.le_succ _) _).setCell (p:=⟨w.heap.size+1,3,none⟩) (Nat.le_succ _) _);rw[←hW5];clear hW5 a0 a1 a2 a3 a4 v0 v1 v2 v3 fz t0 t1 t2 t3 X
  have SS:=hide (show ∀m,((((W5.drewN m).setCell ⟨w.heap.size+1,0,none⟩ (.int .i64 am)).setCell ⟨w.heap.size+1,1,none⟩ (.int .i64 bm)).setCell ⟨w.heap.size+1,2,none⟩ (.int .i64 cm)).setCell ⟨w.heap.size+1,3,none⟩ (.func (.func fm) #[] #[])=W5.drewN m from fun m=>by
   have k:=ext_drawn (Ext.refl W5) m;rw[set_self _ _ _ (k.keep d0),set_self _ _ _ (k.keep d1),set_self _ _ _ (k.keep d2),set_self _ _ _ (k.keep d3)])
  cases qa:withinB a 0 am
  ·have QA:=hide (fun W=>within_r a 0 am false qa W);have ER:=hide (show false=r by rw[←unhide HR];have e:decide (0≤a∧a≤am)=false:=qa;rw[e];rfl);refine wp_region_quiet_lit (by kernel_rfl) (by kernel_rfl) ?_
   repeat (quiet_step (first | (go_at_call_of 78 (a);exact Calls.quiet_of_same (unhide QA _))))
   refine wpQuiet_step (fun K hK=>?_)
   go_simp
   refine⟨⟨undef,fun m=>⟨unhide SS m,rfl⟩⟩,hK _ ?_⟩;clear hK K
   repeat (quiet_step (fail))
   refine wpQuiet_nil ?_;rintro _ ⟨nq,rfl⟩;go_wp2_with fail;refine bodyPost_ret (by rw[results_cell_tmp rfl];simp [go_sem,loadVar,d0,d1,d2,d3];rfl) rfl ?_;exact⟨by rw[←unhide ER],ext_drawn (unhide X5) _⟩
  ·have QA:=hide (fun W=>within_r a 0 am true qa W);cases qb:withinB b 0 bm
   ·have QB:=hide (fun W=>within_r b 0 bm false qb W);have ER:=hide (show false=r by rw[←unhide HR];have e1:decide (0≤a∧a≤am)=true:=qa;have e:decide (0≤b∧b≤bm)=false:=qb;rw[e1,e];rfl);refine wp_region_quiet_lit (by kernel_rfl) (by kernel_rfl) ?_
    repeat (quiet_step (first | (go_at_call_of 78 (a);exact Calls.quiet_of_same (unhide QA _)) | (go_at_call_of 78 (b);exact Calls.quiet_of_same (unhide QB _))))
    refine wpQuiet_step (fun K hK=>?_)
    go_simp
    refine⟨⟨undef,fun m=>⟨unhide SS m,rfl⟩⟩,hK _ ?_⟩;clear hK K
    repeat (quiet_step (fail))
    refine wpQuiet_nil ?_;rintro _ ⟨nq,rfl⟩;go_wp2_with fail;refine bodyPost_ret (by rw[results_cell_tmp rfl];simp [go_sem,loadVar,d0,d1,d2,d3];rfl) rfl ?_;exact⟨by rw[←unhide ER],ext_drawn (unhide X5) _⟩
   ·have QB:=hide (fun W=>within_r b 0 bm true qb W);have QC:=hide (fun W=>within_any c 0 cm W);have ER:=hide (show withinB c 0 cm=r by rw[←unhide HR];have e1:decide (0≤a∧a≤am)=true:=qa;have e:decide (0≤b∧b≤bm)=true:=qb;rw[e1,e];rfl);refine wp_region_quiet_lit (by kernel_rfl) (by kernel_rfl) ?_
    repeat (quiet_step (first | (go_at_call_of 78 (a);exact Calls.quiet_of_same (unhide QA _)) | (go_at_call_of 78 (b);exact Calls.quiet_of_same (unhide QB _)) | (go_at_call_of 78 (c);exact Calls.quiet_of_same (unhide QC _))))
    refine wpQuiet_step (fun K hK=>?_)
    go_simp
    refine⟨⟨undef,fun m=>⟨unhide SS m,rfl⟩⟩,hK _ ?_⟩;clear hK K
    repeat (quiet_step (fail))
    refine wpQuiet_nil ?_;rintro _ ⟨nq,rfl⟩;go_wp2_with fail;refine bodyPost_ret (by rw[results_cell_tmp rfl];simp [go_sem,loadVar,d0,d1,d2,d3];rfl) rfl ?_;exact⟨by rw[←unhide ER],ext_drawn (unhide X5) _⟩
 ·have q2:=h3.1;have q1:=h3.2;clear h3;go_wp2_with (go_at_call 78;refine(unhide QO _).mono ?_;rintro e w2 ⟨rfl,hw2⟩;rw[hw2];clear hw2 w2);obtain⟨W5,hW5⟩:∃W,W=((((W4.setCell ⟨w.heap.size+1,0,none⟩ (iv am)).setCell ⟨w.heap.size+1,1,none⟩ (iv bm)).setCell ⟨w.heap.size+1,2,none⟩ (iv cm)).setCell ⟨w.heap.size+1,3,none⟩ (.func (.func fm) #[] #[])):=⟨_,rfl⟩;have d0:W5.cell? ⟨w.heap.size+1,0,none⟩=some (iv am):=by rw[hW5];simp [go_sem,v0]
  have d1:W5.cell? ⟨w.heap.size+1,1,none⟩=some (iv bm):=by rw[hW5];simp [go_sem,v1]
  have d2:W5.cell? ⟨w.heap.size+1,2,none⟩=some (iv cm):=by rw[hW5];simp [go_sem,v2]
  have d3:W5.cell? ⟨w.heap.size+1,3,none⟩=some (.func (.func fm) #[] #[]):=by rw[hW5];simp [go_sem,v3]
  have b1:W5.cell? ⟨w.heap.size,1,none⟩=some (iv a):=by rw[hW5];simp [go_sem,a1]
  have b2:W5.cell? ⟨w.heap.size,2,none⟩=some (iv b):=by rw[hW5];simp [go_sem,a2]
  have b3:W5.cell? ⟨w.heap.size,3,none⟩=some (iv c):=by rw[hW5];simp [go_sem,a3]
  have f5:∀j,W5.frozen? ⟨w.heap.size+1,j,none⟩=false:=fun j=>by rw[hW5];simp [go_sem,fz]
  have X5:=hide (show Ext w W5 by rw[hW5];exact((((unhide X).setCell (p:=⟨w.heap.size+1,0,none⟩) (Nat.le_succ _) _).setCell (p:=⟨w.heap.size+1,1,none⟩) (Nat.le_succ _) _).setCell (p:=⟨w.heap.size+1,2,none⟩) (Nat.le_succ _) _).setCell (p:=⟨w.heap.size+1,3,none⟩) (Nat.le_succ _) _);rw[←hW5];clear hW5 a0 a1 a2 a3 a4 v0 v1 v2 v3 fz t0 t1 t2 t3 X
  have SS:=hide (show ∀m,((((W5.drewN m).setCell ⟨w.heap.size+1,0,none⟩ (.int .i64 am)).setCell ⟨w.heap.size+1,1,none⟩ (.int .i64 bm)).setCell ⟨w.heap.size+1,2,none⟩ (.int .i64 cm)).setCell ⟨w.heap.size+1,3,none⟩ (.func (.func fm) #[] #[])=W5.drewN m from fun m=>by
   have k:=ext_drawn (Ext.refl W5) m;rw[set_self _ _ _ (k.keep d0),set_self _ _ _ (k.keep d1),set_self _ _ _ (k.keep d2),set_self _ _ _ (k.keep d3)])
  cases qa:withinB a 0 am
  ·have QA:=hide (fun W=>within_r a 0 am false qa W);have ER:=hide (show false=r by rw[←unhide HR];have e:decide (0≤a∧a≤am)=false:=qa;rw[e];rfl);refine wp_region_quiet_lit (by kernel_rfl) (by kernel_rfl) ?_
   repeat (quiet_step (first | (go_at_call_of 78 (a);exact Calls.quiet_of_same (unhide QA _))))
   refine wpQuiet_step (fun K hK=>?_)
   go_simp
   refine⟨⟨undef,fun m=>⟨unhide SS m,rfl⟩⟩,hK _ ?_⟩;clear hK K
   repeat (quiet_step (fail))
   refine wpQuiet_nil ?_;rintro _ ⟨nq,rfl⟩;go_wp2_with fail;refine bodyPost_ret (by rw[results_cell_tmp rfl];simp [go_sem,loadVar,d0,d1,d2,d3];rfl) rfl ?_;exact⟨by rw[←unhide ER],ext_drawn (unhide X5) _⟩
  ·have QA:=hide (fun W=>within_r a 0 am true qa W);cases qb:withinB b 0 bm
   ·have QB:=hide (fun W=>within_r b 0 bm false qb W);have ER:=hide (show false=r by rw[←unhide HR];have e1:decide (0≤a∧a≤am)=true:=qa;have e:decide (0≤b∧b≤bm)=false:=qb;rw[e1,e];rfl);refine wp_region_quiet_lit (by kernel_rfl) (by kernel_rfl) ?_
    repeat (quiet_step (first | (go_at_call_of 78 (a);exact Calls.quiet_of_same (unhide QA _)) | (go_at_call_of 78 (b);exact Calls.quiet_of_same (unhide QB _))))
    refine wpQuiet_step (fun K hK=>?_)
    go_simp
    refine⟨⟨undef,fun m=>⟨unhide SS m,rfl⟩⟩,hK _ ?_⟩;clear hK K
    repeat (quiet_step (fail))
    refine wpQuiet_nil ?_;rintro _ ⟨nq,rfl⟩;go_wp2_with fail;refine bodyPost_ret (by rw[results_cell_tmp rfl];simp [go_sem,loadVar,d0,d1,d2,d3];rfl) rfl ?_;exact⟨by rw[←unhide ER],ext_drawn (unhide X5) _⟩
   ·have QB:=hide (fun W=>within_r b 0 bm true qb W);have QC:=hide (fun W=>within_any c 0 cm W);have ER:=hide (show withinB c 0 cm=r by rw[←unhide HR];have e1:decide (0≤a∧a≤am)=true:=qa;have e:decide (0≤b∧b≤bm)=true:=qb;rw[e1,e];rfl);refine wp_region_quiet_lit (by kernel_rfl) (by kernel_rfl) ?_
    repeat (quiet_step (first | (go_at_call_of 78 (a);exact Calls.quiet_of_same (unhide QA _)) | (go_at_call_of 78 (b);exact Calls.quiet_of_same (unhide QB _)) | (go_at_call_of 78 (c);exact Calls.quiet_of_same (unhide QC _))))
    refine wpQuiet_step (fun K hK=>?_)
    go_simp
    refine⟨⟨undef,fun m=>⟨unhide SS m,rfl⟩⟩,hK _ ?_⟩;clear hK K
    repeat (quiet_step (fail))
    refine wpQuiet_nil ?_;rintro _ ⟨nq,rfl⟩;go_wp2_with fail;refine bodyPost_ret (by rw[results_cell_tmp rfl];simp [go_sem,loadVar,d0,d1,d2,d3];rfl) rfl ?_;exact⟨by rw[←unhide ER],ext_drawn (unhide X5) _⟩
theorem act_bounds{op a b c n:Int}(h:actOkB op a b c n=true):(1≤op∧op≤24)∧(0≤a∧a≤actA op)∧(0≤b∧b≤actB op)∧(0≤c∧c≤actC op):=by
 unfold actOkB at h;simp only [Bool.and_eq_true,decide_eq_true_eq] at h;exact⟨h.1.1,h.2.1,h.2.2.1,h.2.2.2⟩
end Go.Proofs.YtddkhnclmeikfaaGreat
