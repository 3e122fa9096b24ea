import Derived.Test.YtnegjhddmfiefaaGreatDoorHx
namespace Go.Proofs.YtnegjhddmfiefaaGreatDoor
open Go.RowKit
def Grw(w:World)(B:Nat)(v:Value)(G:List Int):Prop:=
 (v=.slice none 0 0∧G=[])∨∃gb go cap cur,v=.slice (some ⟨gb,go,none⟩) G.length cap∧B≤gb∧w.heap[gb]?=some (.cells cur 3 (0,0))∧G.length≤cap∧go+cap≤cur.size∧(cur.toList.drop go).take G.length=G.map iv
theorem Grw.lt{w:World}{B:Nat}{v:Value}{G:List Int}(h:Grw w B v G):∀k,v.ownBlock=some k→B≤k∧k<w.heap.size:=by
 intro k hk;rcases h with⟨rfl,_⟩ | ⟨gb,go,cap,cur,rfl,hb,hg,_⟩
 ·simp [Value.ownBlock] at hk
 ·simp [Value.ownBlock] at hk;subst hk;exact⟨hb,(Array.getElem?_eq_some_iff.1 hg).1⟩
theorem Grw.block{w w':World}{B:Nat}{v:Value}{G:List Int}(h:Grw w B v G)(hb:∀k,v.ownBlock=some k→w'.heap[k]?=w.heap[k]?):Grw w' B v G:=by
 rcases h with h | ⟨gb,go,cap,cur,rfl,h1,hg,h2⟩
 ·exact .inl h
 ·exact .inr ⟨gb,go,cap,cur,rfl,h1,by rw[hb gb rfl];exact hg,h2⟩
theorem Grw.form{w:World}{B:Nat}{v:Value}{G:List Int}(h:Grw w B v G):∃a k,v=.slice a G.length k:=by
 rcases h with⟨rfl,rfl⟩ | ⟨gb,go,cap,cur,rfl,_⟩
 ·exact⟨none,0,rfl⟩
 ·exact⟨_,_,rfl⟩
theorem Grw.of{w:World}{B:Nat}{v:Value}{G:List Int}(h:w.ownsRow B 3 1 v G.length (G.map iv)):Grw w B v G:=by
 rcases h.2 with⟨h0,h1⟩ | ⟨g,cap,cur,h0,hb,hg,hn,_,hs,ht⟩
 ·exact .inl ⟨h0,List.eq_nil_of_length_eq_zero h1⟩
 ·exact .inr ⟨g,0,cap,cur,h0,hb,hg,hn,by omega,by simpa using ht⟩
theorem Grw.at{w:World}{B:Nat}{a:Option Addr}{k:Nat}{G:List Int}(h:Grw w B (.slice a G.length k) G)(i:Nat)(hi:i<G.length):∃gb go,a=some ⟨gb,go,none⟩∧w.cell? ⟨gb,go+i,none⟩=some (iv G[i])∧B≤gb:=by
 rcases h with⟨_,rfl⟩ | ⟨gb,go,cap,cur,e,hb,hg,hn,hs,ht⟩
 ·simp at hi
 ·simp only [Value.slice.injEq] at e;refine⟨gb,go,e.1,?_,hb⟩;rw[cell_of_row w gb (go+i) cur _ _ hg,←Array.getElem?_toList];have h1:((cur.toList.drop go).take G.length)[i]?=(G.map iv)[i]?:=by rw[ht]
  rw[List.getElem?_take_of_lt hi,List.getElem?_drop] at h1;rw[h1];simp [hi]
theorem Grw.tail{w:World}{B:Nat}{gb go cap:Nat}{g:Int}{G:List Int}(h:Grw w B (.slice (some ⟨gb,go,none⟩) (G.length+1) cap) (g::G)):Grw w B (.slice (some ⟨gb,go+1,none⟩) G.length (cap-1)) G:=by
 rcases h with⟨_,e⟩ | ⟨gb',go',cap',cur,e,hb,hg,hn,hs,ht⟩
 ·cases e
 ·simp only [Value.slice.injEq,Option.some.injEq,Addr.mk.injEq] at e;obtain⟨⟨rfl,rfl,_⟩,_,rfl⟩:=e;refine .inr ⟨gb,go+1,cap-1,cur,rfl,hb,hg,by simp at hn;omega,by simp at hn;omega,?_⟩
  have h1:((cur.toList.drop go).take (G.length+1)).drop 1=G.map iv:=by
   have:(g::G).length=G.length+1:=rfl;rw[this] at ht;rw[ht];rfl
  rw[List.drop_take,List.drop_drop] at h1
  simpa using h1
theorem take_mid{α:Type}(L:List α)(o n:Nat)(v:α)(xs:List α)(h:(L.drop o).take n=xs)(hl:xs.length=n)(ho:o+n<L.length):((L.take (o+n)++[v]++L.drop (o+n+1)).drop o).take (n+1)=xs++[v]:=by
 have e1:(L.take (o+n)).length=o+n:=by simp;omega
 have e2:(L.take (o+n)).drop o=xs:=by rw[List.drop_take,show o+n-o=n by omega];exact h
 rw[List.append_assoc,List.drop_append_of_le_length (by omega),e2];simp [List.take_append,hl];exact List.take_of_length_le (by omega)
theorem run_app1{P:Program}(w:World)(t ty:TypeId)(i:TypeInfo)(z:Value)(B:Nat)(v:Value)(G:List Int)(ht:P.underlying t=some (.slice 3))(hi:P.info? 3=some i)(hz:i.zero=some z)(hs1:i.size=1)(hby:i.bytes=8)(hzs:z.cells.size=1)(h:Grw w B v G)(ad:Addr)(c:Nat)(x:Int)(hx:w.cell? ad=some (iv x))(hn:G.length≤1048576)(hB:B≤w.heap.size):
  ∃gb go cap w',(Builtin.append_ #[t,t] ty #[v,.slice (some ad) 1 c]).run P w=.ok (.slice (some ⟨gb,go,none⟩) (G.length+1) cap) w'∧Grw w' B (.slice (some ⟨gb,go,none⟩) (G.length+1) cap) (G++[x])∧w.grownBy w' v.ownBlock∧(v.ownBlock=some gb∨gb=w.heap.size)∧gb<w'.heap.size:=by
 have hnews:∀j u,[iv x][j]?=some u→w.cell? (ad.add j)=some u:=fun j u hj=>by
  match j,hj with
  | 0,hj=>
   simp at hj;subst hj;have:ad.add 0=ad:=by unfold Addr.add;simp
   rw[this];exact hx
 have grown:∀(old:Nat),old<G.length+1→Grw (w.drew.alloc (.cells ((G.map iv).toArray ++ #[iv x]++Builtin.zeroCells z.cells (grownCap w (G.length+1) old 3-(G.length+1))) 3)) B (.slice (some ⟨w.heap.size,0,none⟩) (G.length+1) (grownCap w (G.length+1) old 3)) (G++[x])∧∀row,w.grownBy (w.drew.alloc (.cells ((G.map iv).toArray ++ #[iv x]++Builtin.zeroCells z.cells (grownCap w (G.length+1) old 3-(G.length+1))) 3)) row:=by
  intro old ho;have hge:=grownCap_ge w (G.length+1) old 3;refine⟨.inr ⟨w.heap.size,0,grownCap w (G.length+1) old 3,_,by simp,hB,heap_alloc_new w.drew _,by simpa using hge,?_,?_⟩,fun row=>⟨rfl,rfl,rfl,by simp,fun k hk _=>Below.heap_alloc w.drew _ k hk⟩⟩
  ·simp [size_zeroCells,hzs];omega
  ·simp;have e:G.length+1=(G.map iv++[iv x]).length:=by simp
   rw[List.append_cons,e,List.take_left]
 rcases h with⟨rfl,rfl⟩ | ⟨gb,go,cap,cur,rfl,hb,hg,hnc,hcs,htake⟩
 ·have hr:=run_append_nil (P:=P) w t ty 3 i z ht hi hz ad 1 c [iv x] (by simp [hs1]) hnews (by omega) (by omega) (by rw[hby];omega);have hgr:=grown 0 (by omega);simp only [List.length_nil,Nat.zero_add,List.map_nil] at hgr;refine⟨_,_,_,_,hr,?_,hgr.2 _,.inr rfl,by simp⟩
  simpa using hgr.1
 ·by_cases hroom:G.length+1≤cap
  ·have hf:=run_firstCells_some (P:=P) w i.size 1 ad 1 c [iv x] (by simp [hs1]) hnews;rw[hs1] at hf;have hst:=run_storeCells_at P gb (go+G.length) 3 [iv x] 0 cur w hg (by simp;omega) (by intro v hv;simp at hv;subst hv;rfl);simp only [Nat.add_zero,List.length_cons,List.length_nil,Nat.zero_add] at hst;refine⟨gb,go,cap,w.setRow gb (cur.toList.take (go+G.length)++[iv x]++cur.toList.drop (go+G.length+1)).toArray,?_,.inr ⟨gb,go,cap,_,by simp,hb,setRow_heap w gb cur _ 3 _ hg,by simpa using hroom,?_,?_⟩,⟨rfl,rfl,rfl,by simp,fun k _ hk=>setRow_other w gb k _ (fun e=>hk (by simp [Value.ownBlock,e]))⟩,.inl rfl,?_⟩
   ·simp only [List.append_assoc,List.singleton_append] at hst ⊢;simp [Builtin.append_,run_underlying ht,sizeOf,typeInfo,hi,Builtin.lenOf,hroom,hf,Addr.add_lit,hst,hs1]
   ·simp;omega
   ·have:=take_mid cur.toList go G.length (iv x) (G.map iv) htake (by simp) (by simp;omega)
    simpa using this
   ·have:=(Array.getElem?_eq_some_iff.1 hg).1
    simpa using this
  ·have hr:=run_append_grow (P:=P) w t ty 3 i z ht hi hz ⟨gb,go,none⟩ G.length cap (G.map iv) (by simp [hs1]) (fun j u hj=>by
     have hj':j<G.length:=by have:=(List.getElem?_eq_some_iff.1 hj).1;simpa using this
     have:(⟨gb,go,none⟩:Addr).add j=⟨gb,go+j,none⟩:=by unfold Addr.add;split <;> simp_all
     rw[this,cell_of_row w gb (go+j) cur _ _ hg,←Array.getElem?_toList];have h1:((cur.toList.drop go).take G.length)[j]?=(G.map iv)[j]?:=by rw[htake]
     rw[List.getElem?_take_of_lt hj',List.getElem?_drop] at h1;rw[h1];exact hj) ad 1 c [iv x] (by simp [hs1]) hnews (by omega) (by omega) (growslice_fits (by omega) (by rw[hby];omega))
   have hgr:=grown cap (by omega);exact⟨_,_,_,_,hr,hgr.1,hgr.2 _,.inr rfl,by simp⟩
theorem step_app1{P:Program}(w:World){ops:Array Oper}{o:Oper}{a:Act}{K:Act→World→Prop}{Q:Exit→Act→World→Prop}{E:Prop}(hgd:o.guard=none)(s x:Operand)(t:TypeId)
  (ho:o.op=.call { callee:=.builtin .append,args:=#[s,x],argTypes:=#[t,t] }) (i:TypeInfo) (z:Value) (B:Nat) (v:Value) (G:List Int) (ht:P.underlying t=some (.slice 3)) (hi:P.info? 3=some i) (hz:i.zero=some z) (hs1:i.size=1) (hby:i.bytes=8) (hzs:z.cells.size=1) (hs:a.eval s=v) (h:Grw w B v G) (ad:Addr) (c:Nat) (y:Int) (hx:a.eval x=.slice (some ad) 1 c) (hy:w.cell? ad=some (iv y)) (hn:G.length≤1048576) (hB:B≤w.heap.size)
  (hK:∀gb go cap w',Grw w' B (.slice (some ⟨gb,go,none⟩) (G.length+1) cap) (G++[y])→w.grownBy w' v.ownBlock→(v.ownBlock=some gb∨gb=w.heap.size)→gb<w'.heap.size→K (a.put o.dst (.slice (some ⟨gb,go,none⟩) (G.length+1) cap)) w') :
  if Region.wanted o (yielded ops a.tmps)=true then Oper.wp P o a w K Q else E:=by
 have hw:Region.wanted o (yielded ops a.tmps)=true:=by simp [Region.wanted,hgd]
 rw[if_pos hw];obtain⟨gb,go,cap,w',hr,h2,h3,h4,h5⟩:=run_app1 (P:=P) w t o.type i z B v G ht hi hz hs1 hby hzs h ad c y hy hn hB;unfold Oper.wp execOp;simp only [ho,resolve,invoke,builtin,Sem.run_bind,Sem.run_pure,Result.andThen_ok,List.map_toArray,List.map_cons,List.map_nil,hs,hx,hr];exact hK gb go cap w' h2 h3 h4 h5
end Go.Proofs.YtnegjhddmfiefaaGreatDoor
