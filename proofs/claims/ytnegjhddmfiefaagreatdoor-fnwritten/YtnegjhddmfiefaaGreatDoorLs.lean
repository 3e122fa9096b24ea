import Derived.Test.YtnegjhddmfiefaaGreatDoorBase
import Derived.BigQuiet
import Derived.BigRegion
import Derived.Deep.AppendLies
import Derived.Deep.QuietTactic
import Derived.Laws.OwnMore
import Derived.WalkSmall
namespace Go.Proofs.YtnegjhddmfiefaaGreatDoor
open Go.RowKit
theorem ownsRow_of_block{w w':World}{base e size n:Nat}{v:Value}{xs:List Value}(h:w.ownsRow base e size v n xs)(hb:∀k,v.ownBlock=some k→w'.heap[k]?=w.heap[k]?):w'.ownsRow base e size v n xs:=by
 refine⟨h.1,?_⟩;rcases h.2 with h' | ⟨g,cap,cur,rfl,h1,h2,h3⟩
 ·exact .inl h'
 ·exact .inr ⟨g,cap,cur,rfl,h1,(hb g rfl).trans h2,h3⟩
def it(L:List Int)(i:Nat):Int:=L.getD i 0
theorem it_eq(L:List Int)(i:Nat)(h:i<L.length):L[i]=it L i:=by simp [it,h]
def swp(L:List Int)(i j:Nat):List Int:=(L.set i (it L j)).set j (it L i)
theorem swp_len(L:List Int)(i j:Nat):(swp L i j).length=L.length:=by simp [swp]
theorem swp_it(L:List Int)(i j k:Nat)(hi:i<L.length)(hj:j<L.length):it (swp L i j) k=if k=j then it L i else if k=i then it L j else it L k:=by
 simp only [it,swp,List.getD_eq_getElem?_getD,List.getElem?_set];by_cases h1:j=k
 ·subst h1;simp [hj]
 ·have h1':¬k=j:=fun e=>h1 e.symm
  by_cases h2:i=k
  ·subst h2;simp [h1,h1',hi]
  ·have h2':¬k=i:=fun e=>h2 e.symm
   simp [h1,h2,h1',h2']
theorem swp_perm(L:List Int)(i j:Nat)(hi:i<L.length)(hj:j<L.length):(swp L i j).Perm L:=by
 have:=List.set_set_perm hi hj;rw[it_eq L i hi,it_eq L j hj] at this;exact this
def Ho(L:List Int):Prop:=∀i,0<i→i<L.length→it L ((i-1) / 2)≤it L i
theorem it_mem(L:List Int)(i:Nat)(h:i<L.length):it L i∈L:=by rw[←it_eq L i h];exact List.getElem_mem h
theorem Ho.nil:Ho []:=fun i _ h=>by simp at h
def Rise(L:List Int)(a:Nat):Prop:=
 (∀i,0<i→i<L.length→i≠a→it L ((i-1) / 2)≤it L i)∧(∀i,0<i→i<L.length→(i-1) / 2=a→0<a→it L ((a-1) / 2)≤it L i)
theorem it_append(L:List Int)(x:Int)(i:Nat):it (L++[x]) i=if i<L.length then it L i else if i=L.length then x else 0:=by
 simp only [it,List.getD_eq_getElem?_getD];by_cases h:i<L.length
 ·simp [h,List.getElem?_append_left]
 ·by_cases h2:i=L.length
  ·subst h2;simp
  ·rw[List.getElem?_eq_none (by simp;omega)];simp [h,h2]
theorem Rise.start{L:List Int}(h:Ho L)(x:Int):Rise (L++[x]) L.length:=by
 refine⟨fun i h0 hi hne=>?_,fun i h0 hi he=>?_⟩
 ·simp at hi;rw[it_append,it_append,if_pos (by omega),if_pos (by omega)];exact h i h0 (by omega)
 ·simp at hi;omega
theorem Rise.done{L:List Int}{a:Nat}(h:Rise L a)(hc:it L ((a-1) / 2)≤it L a):Ho L:=fun i h0 hi=>by
 by_cases e:i=a
 ·subst e;exact hc
 ·exact h.1 i h0 hi e
def Fall(L:List Int)(a:Nat):Prop:=
 (∀i,0<i→i<L.length→(i-1) / 2≠a→it L ((i-1) / 2)≤it L i)∧(∀i,0<i→i<L.length→(i-1) / 2=a→0<a→it L ((a-1) / 2)≤it L i)
def Lesser(L:List Int)(a s:Nat):Prop:=(s=2*a+1∨s=2*a+2)∧s<L.length∧(∀i,0<i→i<L.length→(i-1) / 2=a→it L s≤it L i)
theorem Lesser.left{L:List Int}{a:Nat}(h:2*a+1<L.length)(hc:2*a+2<L.length→it L (2*a+1)≤it L (2*a+2)):Lesser L a (2*a+1):=
 ⟨.inl rfl,h,fun i h0 hi e=>by
  by_cases q:i=2*a+1
  ·rw[q];exact Int.le_refl _
  ·have:i=2*a+2:=by omega
   rw[this];exact hc (by omega)⟩
theorem Fall.done{L:List Int}{a s:Nat}(h:Fall L a)(hs:Lesser L a s)(hc:it L a≤it L s):Ho L:=fun i h0 hi=>by
 by_cases e:(i-1) / 2=a
 ·have:=hs.2.2 i h0 hi e;rw[e];omega
 ·exact h.1 i h0 hi e
def cutl(L:List Int):List Int:=(swp L 0 (L.length-1)).take (L.length-1)
theorem cutl_len(L:List Int):(cutl L).length=L.length-1:=by simp [cutl,swp_len]
theorem it_take(L:List Int)(n i:Nat)(h:i<n):it (L.take n) i=it L i:=by simp [it,h]
theorem Fall.start{L:List Int}(h:Ho L):Fall (cutl L) 0:=by
 refine⟨fun i h0 hi hne=>?_,fun i h0 hi he hp=>by omega⟩;rw[cutl_len] at hi;unfold cutl;rw[it_take _ _ _ (by omega),it_take _ _ _ (by omega),swp_it L 0 _ _ (by omega) (by omega),swp_it L 0 _ _ (by omega) (by omega),if_neg (by omega),if_neg hne,if_neg (by omega),if_neg (by omega)];exact h i h0 (by omega)
structure LsAt(w:World)(base bq oq:Nat)(v:Value)(L:List Int):Prop where
 hd:w.cell? ⟨bq,oq,none⟩=some v
 hf:w.frozen? ⟨bq,oq,none⟩=false
 own:w.ownsRow base 3 1 v L.length (L.map iv)
 apart:v.ownBlock≠some bq
structure QFr(bq oq:Nat)(v v':Value)(w w':World):Prop where
 os:w'.os=w.os
 tape:w'.tape=w.tape
 output:w'.output=w.output
 size:w.heap.size≤w'.heap.size
 block:∀k,k<w.heap.size→k≠bq→v.ownBlock≠some k→w'.heap[k]?=w.heap[k]?
 hdr:∀o,o≠oq→w'.cell? ⟨bq,o,none⟩=w.cell? ⟨bq,o,none⟩
 hfr:∀o,w'.frozen? ⟨bq,o,none⟩=w.frozen? ⟨bq,o,none⟩
 own:v'.ownBlock=v.ownBlock∨∃g,v'.ownBlock=some g∧w.heap.size≤g
theorem QFr.refl(bq oq:Nat)(v:Value)(w:World):QFr bq oq v v w w:=⟨rfl,rfl,rfl,Nat.le_refl _,fun _ _ _ _=>rfl,fun _ _=>rfl,fun _=>rfl,.inl rfl⟩
theorem QFr.trans{bq oq:Nat}{v v1 v2:Value}{w w1 w2:World}(h:QFr bq oq v v1 w w1)(k:QFr bq oq v1 v2 w1 w2):QFr bq oq v v2 w w2:=
 ⟨k.os.trans h.os,k.tape.trans h.tape,k.output.trans h.output,Nat.le_trans h.size k.size,
  fun i hi hne hv=>(k.block i (Nat.lt_of_lt_of_le hi h.size) hne (fun e=>by
   rcases h.own with h1 | ⟨g,h1,h2⟩
   ·rw[h1] at e;exact hv e
   ·rw[h1] at e;cases e;omega)).trans (h.block i hi hne hv),
  fun o ho=>(k.hdr o ho).trans (h.hdr o ho),fun o=>(k.hfr o).trans (h.hfr o),by
   rcases k.own with h1 | ⟨g,h1,h2⟩
   ·rcases h.own with h3 | ⟨g,h3,h4⟩
    ·exact .inl (h1.trans h3)
    ·exact .inr ⟨g,h1.trans h3,h4⟩
   ·exact .inr ⟨g,h1,Nat.le_trans h.size h2⟩⟩
theorem QFr.ext{a:World}{bq oq:Nat}{v v':Value}{w w':World}(h:QFr bq oq v v' w w')(e:Ext a w)(hb:a.heap.size≤bq)(hv:∀k,v.ownBlock=some k→a.heap.size≤k):Ext a w':=
 Below.trans e ⟨h.os,h.tape,h.output,h.size,fun k hk=>h.block k (Nat.lt_of_lt_of_le hk e.size) (by omega) (fun q=>by have:=hv k q;omega)⟩
theorem QFr.drewN{bq oq:Nat}{v v':Value}{w w':World}(h:QFr bq oq v v' w w')(n:Nat):QFr bq oq v v' w (w'.drewN n):=⟨h.os,h.tape,h.output,h.size,h.block,h.hdr,h.hfr,h.own⟩
theorem QFr.cells{bq oq:Nat}{v v':Value}{w w':World}(h:QFr bq oq v v' w w'){b o:Nat}{u:Value}(hc:w.cell? ⟨b,o,none⟩=some u)(hb:b≠bq)(hv:v.ownBlock≠some b):w'.cell? ⟨b,o,none⟩=some u:=
 (World.cell?_of_block (w:=w) (w':=w') (a:=⟨b,o,none⟩) (h.block b (cell_lt hc) hb hv)).trans hc
theorem LsAt.hlt{w:World}{base bq oq:Nat}{v:Value}{L:List Int}(h:LsAt w base bq oq v L):bq<w.heap.size:=cell_lt h.hd
theorem LsAt.rlt{w:World}{base bq oq:Nat}{v:Value}{L:List Int}(h:LsAt w base bq oq v L):∀k,v.ownBlock=some k→base≤k∧k<w.heap.size:=h.own.lt
theorem LsAt.ext{w w':World}{base bq oq:Nat}{v:Value}{L:List Int}(h:LsAt w base bq oq v L)(e:Ext w w'):LsAt w' base bq oq v L:=
 ⟨e.keep h.hd,by rw[e.frozen (p:=⟨bq,oq,none⟩) h.hlt];exact h.hf,ownsRow_of_block h.own (fun k hk=>e.block k (h.rlt k hk).2),h.apart⟩
theorem LsAt.nil{w:World}{base bq oq:Nat}(hd:w.cell? ⟨bq,oq,none⟩=some (.slice none 0 0))(hf:w.frozen? ⟨bq,oq,none⟩=false):LsAt w base bq oq (.slice none 0 0) []:=
 ⟨hd,hf,World.ownsRow_nil _ _ _ _,by simp [Value.ownBlock]⟩
theorem LsAt.form{w:World}{base bq oq:Nat}{v:Value}{L:List Int}(h:LsAt w base bq oq v L)(hn:0<L.length):∃g cap,v=.slice (some ⟨g,0,none⟩) L.length cap∧g≠bq:=by
 obtain⟨g,cap,rfl,_,_⟩:=h.own.form hn;exact⟨g,cap,rfl,fun e=>h.apart (by rw[←e];rfl)⟩
theorem LsAt.cell{w:World}{base bq oq g n cap:Nat}{L:List Int}(h:LsAt w base bq oq (.slice (some ⟨g,0,none⟩) n cap) L)(i:Nat)(hi:i<L.length):w.cell? ⟨g,i,none⟩=some (iv (it L i)):=by
 obtain⟨h1,h2⟩:=h.own;rcases h2 with⟨h0,_⟩ | ⟨g',cap',cur,h0,hb,hg,hr⟩
 ·cases h0
 ·cases h0;have:=World.ownsRow.cellAt (w:=w) (base:=base) (e:=3) (size:=1) (g:=g) (n:=L.length) (cap:=cap) (xs:=L.map iv) h.own i (by omega);rw[this];simp [it,hi]
theorem LsAt.len{w:World}{base bq oq g n cap:Nat}{L:List Int}(h:LsAt w base bq oq (.slice (some ⟨g,0,none⟩) n cap) L):n=L.length∧n≤cap:=by
 rcases h.own.2 with⟨h0,_⟩ | ⟨g',cap',cur,h0,hb,hg,hr,_⟩
 ·cases h0
 ·cases h0;exact⟨rfl,hr⟩
theorem LsAt.store{w:World}{base bq oq g n cap:Nat}{L:List Int}(h:LsAt w base bq oq (.slice (some ⟨g,0,none⟩) n cap) L)(i:Nat)(x:Int):
  LsAt (w.setCell ⟨g,i,none⟩ (iv x)) base bq oq (.slice (some ⟨g,0,none⟩) n cap) (L.set i x)∧QFr bq oq (.slice (some ⟨g,0,none⟩) n cap) (.slice (some ⟨g,0,none⟩) n cap) w (w.setCell ⟨g,i,none⟩ (iv x)):=by
 have hne:g≠bq:=fun e=>h.apart (by rw[←e];rfl)
 obtain⟨hl,hc⟩:=h.len;subst hl;obtain⟨s1,s2⟩:=World.ownsRow.stored h.own i (iv x);refine⟨⟨?_,?_,?_,h.apart⟩,⟨rfl,rfl,rfl,s2.size,fun k hk h1 h2=>s2.block k hk (fun e=>h2 e.symm),fun o ho=>?_,fun o=>?_,.inl rfl⟩⟩
 ·rw[cell_other _ (.inl hne)];exact h.hd
 ·rw[World.frozen?_setCell];exact h.hf
 ·rw[List.length_set,List.map_set];exact s1
 ·exact cell_other _ (.inl hne)
 ·rw[World.frozen?_setCell]
theorem LsAt.swap{w w':World}{base bq oq g n cap:Nat}{L:List Int}(h:LsAt w base bq oq (.slice (some ⟨g,0,none⟩) n cap) L)(i j:Nat)
  (h1:w'.heap=((w.setCell ⟨g,i,none⟩ (iv (it L j))).setCell ⟨g,j,none⟩ (iv (it L i))).heap) (h2:w'.os=w.os) (h3:w'.tape=w.tape) (h4:w'.output=w.output) :
  LsAt w' base bq oq (.slice (some ⟨g,0,none⟩) n cap) (swp L i j)∧QFr bq oq (.slice (some ⟨g,0,none⟩) n cap) (.slice (some ⟨g,0,none⟩) n cap) w w':=by
 obtain⟨a1,a2⟩:=h.store i (it L j);obtain⟨b1,b2⟩:=a1.store j (it L i);have q:=a2.trans b2;have hb:∀k:Nat,w'.heap[k]?=((w.setCell ⟨g,i,none⟩ (iv (it L j))).setCell ⟨g,j,none⟩ (iv (it L i))).heap[k]?:=fun k=>by rw[h1]
 refine⟨⟨(World.cell?_of_block (a:=⟨bq,oq,none⟩) (hb bq)).trans b1.hd,(World.frozen?_of_block (a:=⟨bq,oq,none⟩) (hb bq)).trans b1.hf,ownsRow_of_block b1.own (fun k _=>hb k),h.apart⟩,
  ⟨h2,h3,h4,by rw[h1];exact q.size,fun k hk x y=>(hb k).trans (q.block k hk x y),fun o ho=>(World.cell?_of_block (a:=⟨bq,o,none⟩) (hb bq)).trans (q.hdr o ho),fun o=>(World.frozen?_of_block (a:=⟨bq,o,none⟩) (hb bq)).trans (q.hfr o),.inl rfl⟩⟩
end Go.Proofs.YtnegjhddmfiefaaGreatDoor
