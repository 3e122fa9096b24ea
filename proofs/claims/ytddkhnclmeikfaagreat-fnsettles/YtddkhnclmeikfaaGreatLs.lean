import Derived.Test.YtddkhnclmeikfaaGreatBase
import Derived.BigQuiet
import Derived.BigRegion
import Derived.Deep.AppendLies
import Derived.Deep.QuietTactic
import Derived.Laws.OwnMore
import Derived.WalkSmall
set_option maxRecDepth 100000
set_option maxHeartbeats 1000000
namespace Go.Proofs.YtddkhnclmeikfaaGreat
open Go.RowKit
attribute [local go_sem ↓] Go.wp_at_zero Go.wp_at_succ
variable{L M:List Int}{w w':World}{bq oq base a n g cap s:Nat}{v v' v2:Value}{x:Int}
theorem uN{e size:Nat}{xs:List Value}(h:w.ownsRow base e size v n xs)(hb:∀k,v.ownBlock=some k->w'.heap[k]?=w.heap[k]?):w'.ownsRow base e size v n xs:=by
 refine⟨h.1,?_⟩;rcases h.2 with h' | ⟨g,cap,cur,rfl,h1,h2,h3⟩
 ·exact .inl h'
 ·exact .inr ⟨g,cap,cur,rfl,h1,(hb g rfl).trans h2,h3⟩
def it(L:List Int)(i:Nat):Int:=L.getD i 0
theorem a9a(L:List Int)(i:Nat)(h:i<L.length):L[i]=it L i:=by simp [it,h]
def swp(L:List Int)(i j:Nat):List Int:=(L.set i (it L j)).set j (it L i)
theorem a0s(L:List Int)(i j:Nat):(swp L i j).length=L.length:=by simp [swp]
theorem a3z(L:List Int)(i j k:Nat)(hi:i<L.length)(hj:j<L.length):it (swp L i j) k=if k=j then it L i else if k=i then it L j else it L k:=by
 simp only [it,swp,List.getD_eq_getElem?_getD,List.getElem?_set];by_cases h1:j=k
 ·subst h1;simp [hj]
 ·have h1':¬k=j:=λe=>h1 e.symm
  by_cases h2:i=k
  ·subst h2;simp [h1,h1',hi]
  ·have h2':¬k=i:=λe=>h2 e.symm
   simp [h1,h2,h1',h2']
theorem a4a(L:List Int)(i j:Nat)(hi:i<L.length)(hj:j<L.length):(swp L i j).Perm L:=by
 have:=List.set_set_perm hi hj;rw[a9a L i hi,a9a L j hj] at this;exact this
def Ho(L:List Int):Prop:=∀i,0<i->i<L.length->it L ((i-1) / 2)<=it L i
theorem Ho.root{L:List Int}(h:Ho L):∀i,i<L.length->it L 0<=it L i:=by
 intro i
 induction i using Nat.strongRecOn with
 | ind i ih=>
  intro hi;by_cases h0:i=0
  ·subst h0;exact Int.le_refl _
  ·have h1:=h i (by omega) hi;have h2:=ih ((i-1) / 2) (by omega) (by omega);omega
theorem a3j(L:List Int)(i:Nat)(h:i<L.length):it L i∈L:=by rw[<-a9a L i h];exact List.getElem_mem h
theorem Ho.least(h:Ho L)(hx:x∈L):it L 0<=x:=by
 obtain⟨i,hi,e⟩:=List.getElem_of_mem hx;rw[<-e,a9a L i hi];exact h.root i hi
theorem Ho.nil:Ho []:=λi _ h=>by simp at h
def a9b(L:List Int)(a:Nat):Prop:=
 (∀i,0<i->i<L.length->i≠a->it L ((i-1) / 2)<=it L i)/\(∀i,0<i->i<L.length->(i-1) / 2=a->0<a->it L ((a-1) / 2)<=it L i)
theorem b5h(L:List Int)(x:Int)(i:Nat):it (L++[x]) i=if i<L.length then it L i else if i=L.length then x else 0:=by
 simp only [it,List.getD_eq_getElem?_getD];by_cases h:i<L.length
 ·simp [h,List.getElem?_append_left]
 ·by_cases h2:i=L.length
  ·subst h2;simp
  ·rw[List.getElem?_eq_none (by simp;omega)];simp [h,h2]
theorem a9b.start(h:Ho L)(x:Int):a9b (L++[x]) L.length:=by
 refine⟨λi h0 hi hne=>?_,λi h0 hi he=>?_⟩
 ·simp at hi;rw[b5h,b5h,if_pos (by omega),if_pos (by omega)];exact h i h0 (by omega)
 ·simp at hi;omega
theorem a9b.top(h:a9b L 0):Ho L:=λi h0 hi=>h.1 i h0 hi (by omega)
theorem a9b.done(h:a9b L a)(hc:it L ((a-1) / 2)<=it L a):Ho L:=λi h0 hi=>by
 by_cases e:i=a
 ·subst e;exact hc
 ·exact h.1 i h0 hi e
theorem a9b.up{u:Nat}(h:a9b L a)(ha:0<a)(hl:a<L.length)(hu:u=(a-1) / 2)(hc:it L a<it L u):a9b (swp L u a) u:=by
 have hul:u<L.length:=by omega
 refine⟨λi h0 hi hne=>?_,λi h0 hi he hp=>?_⟩
 ·rw[a0s] at hi;rw[a3z L u a _ hul hl,a3z L u a _ hul hl];by_cases e1:i=a
  ·subst e1;rw[if_pos rfl,if_neg (by omega),if_pos hu.symm];omega
  ·rw[if_neg e1,if_neg hne];by_cases e2:(i-1) / 2=a
   ·rw[if_pos e2];have:=h.2 i h0 hi e2 ha;rw[hu];exact this
   ·rw[if_neg e2];by_cases e3:(i-1) / 2=u
    ·rw[if_pos e3];have:=h.1 i h0 hi e1;rw[e3] at this;omega
    ·rw[if_neg e3];exact h.1 i h0 hi e1
 ·rw[a0s] at hi;rw[a3z L u a _ hul hl,a3z L u a _ hul hl];rw[if_neg (by omega),if_neg (by omega)];have hup:=h.1 u hp hul (by omega);by_cases e1:i=a
  ·rw[if_pos e1];exact hup
  ·rw[if_neg e1,if_neg (by omega)];have:=h.1 i h0 hi e1;rw[he] at this;omega
def a5m(L:List Int)(a:Nat):Prop:=
 (∀i,0<i->i<L.length->(i-1) / 2≠a->it L ((i-1) / 2)<=it L i)/\(∀i,0<i->i<L.length->(i-1) / 2=a->0<a->it L ((a-1) / 2)<=it L i)
theorem a5m.bottom(h:a5m L a)(hb:L.length<=2*a+1):Ho L:=λi h0 hi=>h.1 i h0 hi (by omega)
def a3k(L:List Int)(a s:Nat):Prop:=(s=2*a+1\/s=2*a+2)/\s<L.length/\(∀i,0<i->i<L.length->(i-1) / 2=a->it L s<=it L i)
theorem a3k.right(h:2*a+2<L.length)(hc:it L (2*a+2)<it L (2*a+1)):a3k L a (2*a+2):=
 ⟨.inr rfl,h,λi h0 hi e=>by
  by_cases q:i=2*a+2
  ·rw[q];exact Int.le_refl _
  ·have:i=2*a+1:=by omega
   rw[this];omega⟩
theorem a3k.left(h:2*a+1<L.length)(hc:2*a+2<L.length->it L (2*a+1)<=it L (2*a+2)):a3k L a (2*a+1):=
 ⟨.inl rfl,h,λi h0 hi e=>by
  by_cases q:i=2*a+1
  ·rw[q];exact Int.le_refl _
  ·have:i=2*a+2:=by omega
   rw[this];exact hc (by omega)⟩
theorem a5m.done(h:a5m L a)(hs:a3k L a s)(hc:it L a<=it L s):Ho L:=λi h0 hi=>by
 by_cases e:(i-1) / 2=a
 ·have:=hs.2.2 i h0 hi e;rw[e];omega
 ·exact h.1 i h0 hi e
theorem a5m.down(h:a5m L a)(hs:a3k L a s)(hc:it L s<it L a):a5m (swp L a s) s:=by
 obtain⟨hs1,hsl,hs2⟩:=hs;have hal:a<L.length:=by omega
 refine⟨λi h0 hi hne=>?_,λi h0 hi he hp=>?_⟩
 ·rw[a0s] at hi;rw[a3z L a s _ hal hsl,a3z L a s _ hal hsl];rw[if_neg hne];by_cases e1:i=s
  ·subst e1;rw[if_pos (by omega),if_pos rfl];omega
  ·rw[if_neg e1];by_cases e2:(i-1) / 2=a
   ·rw[if_pos e2,if_neg (by omega)];exact hs2 i h0 hi e2
   ·rw[if_neg e2];by_cases e3:i=a
    ·subst e3;rw[if_pos rfl];exact h.2 s (by omega) hsl (by omega) h0
    ·rw[if_neg e3];exact h.1 i h0 hi e2
 ·rw[a0s] at hi;rw[a3z L a s _ hal hsl,a3z L a s _ hal hsl];have e0:(s-1) / 2=a:=by omega
  rw[e0,if_neg (by omega),if_pos rfl,if_neg (by omega),if_neg (by omega)];have:=h.1 i h0 hi (by omega);rw[he] at this;exact this
def b6j(L:List Int):List Int:=(swp L 0 (L.length-1)).take (L.length-1)
theorem c7d(L:List Int):(b6j L).length=L.length-1:=by simp [b6j,a0s]
theorem c3c(L:List Int)(n i:Nat)(h:i<n):it (L.take n) i=it L i:=by simp [it,h]
theorem c4k(L:List Int)(h:0<L.length):(it L 0::b6j L).Perm L:=by
 have h1:=a4a L 0 (L.length-1) h (by omega)
 have hs:swp L 0 (L.length-1)=b6j L++[it L 0]:=by
  have h2:=List.take_append_getElem (l:=swp L 0 (L.length-1)) (i:=L.length-1) (by rw[a0s];omega);rw[a9a,a3z L 0 _ _ h (by omega),if_pos rfl] at h2;have:L.length-1+1=(swp L 0 (L.length-1)).length:=by rw[a0s];omega
  rw[this,List.take_length] at h2;exact h2.symm
 rw[hs] at h1;exact(List.perm_append_singleton _ _).symm.trans h1
theorem a5m.start(h:Ho L):a5m (b6j L) 0:=by
 refine⟨λi h0 hi hne=>?_,λi h0 hi he hp=>by omega⟩;rw[c7d] at hi;unfold b6j;rw[c3c _ _ _ (by omega),c3c _ _ _ (by omega),a3z L 0 _ _ (by omega) (by omega),a3z L 0 _ _ (by omega) (by omega),if_neg (by omega),if_neg hne,if_neg (by omega),if_neg (by omega)];exact h i h0 (by omega)
theorem b2q(hp:(x::M).Perm L)(hL:Ho L)(hx:x=it L 0)(hM:Ho M)(hm:M=[]\/it M 0≠x):L.Nodup↔M.Nodup:=by
 rw[<-hp.nodup_iff,List.nodup_cons];refine⟨λh=>h.2,λh=>⟨λhmem=>?_,h⟩⟩;rcases hm with e | e
 ·rw[e] at hmem;cases hmem
 ·have h1:=hM.least hmem;have hne:M≠[]:=List.ne_nil_of_mem hmem;have h2:it M 0∈M:=a3j M 0 (by cases M with | nil=>exact(hne rfl).elim | cons _ _=>simp);have h3:=hL.least (hp.mem_iff.1 (List.mem_cons_of_mem _ h2));omega
theorem b7t(hp:(x::M).Perm L)(hm:0<M.length)(e:it M 0=x):¬L.Nodup:=by
 rw[<-hp.nodup_iff,List.nodup_cons];exact λh=>h.1 (by rw[<-e];exact a3j M 0 hm)
theorem swap_ne(w:World)(bq oq g og n cap i j:Nat)(xi xj:Int)(hf:w.cell? ⟨bq,oq,none⟩=some (.slice (some ⟨g,og,none⟩) n cap))(ci:w.cell? ⟨g,og+i,none⟩=some (iv xi))(cj:w.cell? ⟨g,og+j,none⟩=some (iv xj))(fi:w.frozen? ⟨g,og+i,none⟩=false)(fj:w.frozen? ⟨g,og+j,none⟩=false)(hi:i<n)(hj:j<n)(hij:i≠j):
  Calls Tryz.prog 171 #[.pointer (some ⟨bq,oq,none⟩),.int .i64 i,.int .i64 j] w λe w'=>e=.returned (.tuple #[])/\w'.heap=((w.setCell ⟨g,og+i,none⟩ (iv xj)).setCell ⟨g,og+j,none⟩ (iv xi)).heap/\w'.os=w.os/\w'.tape=w.tape/\w'.output=w.output:=by
 have hi0:(0:Int)<=(i:Int):=by omega
 have hi1:(i:Int)<(n:Int):=by omega
 have hj0:(0:Int)<=(j:Int):=by omega
 have hj1:(j:Int)<(n:Int):=by omega
 go_enter Tryz.func171,Tryz.ntmps171
 go_wp2
 go_region
 all_goals go_end0
 all_goals exact⟨rfl,rfl,rfl,rfl,rfl⟩
theorem swap_eq(w:World)(bq oq g og n cap i:Nat)(xi:Int)(hf:w.cell? ⟨bq,oq,none⟩=some (.slice (some ⟨g,og,none⟩) n cap))(ci:w.cell? ⟨g,og+i,none⟩=some (iv xi))(fi:w.frozen? ⟨g,og+i,none⟩=false)(hi:i<n):
  Calls Tryz.prog 171 #[.pointer (some ⟨bq,oq,none⟩),.int .i64 i,.int .i64 i] w λe w'=>e=.returned (.tuple #[])/\w'.heap=((w.setCell ⟨g,og+i,none⟩ (iv xi)).setCell ⟨g,og+i,none⟩ (iv xi)).heap/\w'.os=w.os/\w'.tape=w.tape/\w'.output=w.output:=by
 have hi0:(0:Int)<=(i:Int):=by omega
 have hi1:(i:Int)<(n:Int):=by omega
 go_enter Tryz.func171,Tryz.ntmps171
 go_wp2
 go_region
 all_goals go_end0
 all_goals exact⟨rfl,rfl,rfl,rfl,rfl⟩
theorem a5n(w:World)(bq oq:Nat)(ad:Option Addr)(cap:Nat)(hf:w.cell? ⟨bq,oq,none⟩=some (.slice ad 0 cap)):
  Calls Tryz.prog 227 #[.pointer (some ⟨bq,oq,none⟩)] w λe w'=>e=.returned (.tuple #[.int .i64 0,.bool false])/\w'=w:=by
 go_enter Tryz.func227,Tryz.ntmps227
 go_wp2
 go_ret2;exact⟨rfl,rfl⟩
theorem a2p(w:World)(bq oq g og n cap:Nat)(x0:Int)(hn:0<n)(hf:w.cell? ⟨bq,oq,none⟩=some (.slice (some ⟨g,og,none⟩) n cap))(c0:w.cell? ⟨g,og,none⟩=some (iv x0)):
  Calls Tryz.prog 227 #[.pointer (some ⟨bq,oq,none⟩)] w λe w'=>e=.returned (.tuple #[.int .i64 x0,.bool true])/\w'=w:=by
 have h0:((n:Int) == 0)=false:=beq_eq_false_iff_ne.2 (by omega);have h1:(0:Int)<(n:Int):=by omega
 go_enter Tryz.func227,Tryz.ntmps227
 go_wp2
 go_ret2;exact⟨rfl,rfl⟩
structure eX(w:World)(base bq oq:Nat)(v:Value)(L:List Int):Prop where
 hd:w.cell? ⟨bq,oq,none⟩=some v
 hf:w.frozen? ⟨bq,oq,none⟩=false
 own:w.ownsRow base 3 1 v L.length (L.map iv)
 apart:v.ownBlock≠some bq
structure QFr(bq oq:Nat)(v v':Value)(w w':World):Prop where
 os:w'.os=w.os
 tape:w'.tape=w.tape
 output:w'.output=w.output
 size:w.heap.size<=w'.heap.size
 block:∀k,k<w.heap.size->k≠bq->v.ownBlock≠some k->w'.heap[k]?=w.heap[k]?
 hdr:∀o,o≠oq->w'.cell? ⟨bq,o,none⟩=w.cell? ⟨bq,o,none⟩
 hfr:∀o,w'.frozen? ⟨bq,o,none⟩=w.frozen? ⟨bq,o,none⟩
 own:v'.ownBlock=v.ownBlock\/∃g,v'.ownBlock=some g/\w.heap.size<=g
theorem QFr.refl(bq oq:Nat)(v:Value)(w:World):QFr bq oq v v w w:=⟨rfl,rfl,rfl,Nat.le_refl _,λ_ _ _ _=>rfl,λ_ _=>rfl,λ_=>rfl,.inl rfl⟩
theorem QFr.trans{v1:Value}{w1 w2:World}(h:QFr bq oq v v1 w w1)(k:QFr bq oq v1 v2 w1 w2):QFr bq oq v v2 w w2:=
 ⟨k.os.trans h.os,k.tape.trans h.tape,k.output.trans h.output,Nat.le_trans h.size k.size,
  λi hi hne hv=>(k.block i (Nat.lt_of_lt_of_le hi h.size) hne (λe=>by
   rcases h.own with h1 | ⟨g,h1,h2⟩
   ·rw[h1] at e;exact hv e
   ·rw[h1] at e;cases e;omega)).trans (h.block i hi hne hv),
  λo ho=>(k.hdr o ho).trans (h.hdr o ho),λo=>(k.hfr o).trans (h.hfr o),by
   rcases k.own with h1 | ⟨g,h1,h2⟩
   ·rcases h.own with h3 | ⟨g,h3,h4⟩
    ·exact .inl (h1.trans h3)
    ·exact .inr ⟨g,h1.trans h3,h4⟩
   ·exact .inr ⟨g,h1,Nat.le_trans h.size h2⟩⟩
theorem QFr.ext{a:World}(h:QFr bq oq v v' w w')(e:Ext a w)(hb:a.heap.size<=bq)(hv:∀k,v.ownBlock=some k->a.heap.size<=k):Ext a w':=
 Below.trans e ⟨h.os,h.tape,h.output,h.size,λk hk=>h.block k (Nat.lt_of_lt_of_le hk e.size) (by omega) (λq=>by have:=hv k q;omega)⟩
theorem QFr.drewN(h:QFr bq oq v v' w w')(n:Nat):QFr bq oq v v' w (w'.drewN n):=⟨h.os,h.tape,h.output,h.size,h.block,h.hdr,h.hfr,h.own⟩
theorem QFr.cells(h:QFr bq oq v v' w w'){b o:Nat}{u:Value}(hc:w.cell? ⟨b,o,none⟩=some u)(hb:b≠bq)(hv:v.ownBlock≠some b):w'.cell? ⟨b,o,none⟩=some u:=
 (World.cell?_of_block (w:=w) (w':=w') (a:=⟨b,o,none⟩) (h.block b (uL hc) hb hv)).trans hc
theorem eX.hlt(h:eX w base bq oq v L):bq<w.heap.size:=uL h.hd
theorem eX.rlt(h:eX w base bq oq v L):∀k,v.ownBlock=some k->base<=k/\k<w.heap.size:=h.own.lt
theorem eX.ext(h:eX w base bq oq v L)(e:Ext w w'):eX w' base bq oq v L:=
 ⟨e.keep h.hd,by rw[e.frozen (p:=⟨bq,oq,none⟩) h.hlt];exact h.hf,uN h.own (λk hk=>e.block k (h.rlt k hk).2),h.apart⟩
theorem eX.other{b2 o2:Nat}(h:eX w base b2 o2 v2 L)(q:QFr bq oq v v' w w')(hb:b2≠bq)(h1:v.ownBlock≠some b2)(h2:v2.ownBlock≠some bq)(h3:∀k,v2.ownBlock=some k->v.ownBlock≠some k):eX w' base b2 o2 v2 L:=by
 have hbl:w'.heap[b2]?=w.heap[b2]?:=q.block b2 h.hlt hb h1;refine⟨(World.cell?_of_block (w:=w) (w':=w') (a:=⟨b2,o2,none⟩) hbl).trans h.hd,(World.frozen?_of_block (w:=w) (w':=w') (a:=⟨b2,o2,none⟩) hbl).trans h.hf,uN h.own (λk hk=>q.block k (h.rlt k hk).2 (λe=>h2 (e ▸ hk)) (h3 k hk)),h.apart⟩
theorem eX.nil(hd:w.cell? ⟨bq,oq,none⟩=some (.slice none 0 0))(hf:w.frozen? ⟨bq,oq,none⟩=false):eX w base bq oq (.slice none 0 0) []:=
 ⟨hd,hf,World.ownsRow_nil _ _ _ _,by simp [Value.ownBlock]⟩
theorem eX.form(h:eX w base bq oq v L)(hn:0<L.length):∃g cap,v=.slice (some ⟨g,0,none⟩) L.length cap/\g≠bq:=by
 obtain⟨g,cap,rfl,_,_⟩:=h.own.form hn;exact⟨g,cap,rfl,λe=>h.apart (by rw[<-e];rfl)⟩
theorem eX.empty(h:eX w base bq oq v L)(hn:L.length=0):∃ad cap,v=.slice ad 0 cap:=by
 rcases h.own.2 with⟨h1,_⟩ | ⟨g,cap,cur,h1,_⟩
 ·exact⟨none,0,h1⟩
 ·rw[hn] at h1;exact⟨_,_,h1⟩
theorem eX.cell(h:eX w base bq oq (.slice (some ⟨g,0,none⟩) n cap) L)(i:Nat)(hi:i<L.length):w.cell? ⟨g,i,none⟩=some (iv (it L i)):=by
 obtain⟨h1,h2⟩:=h.own;rcases h2 with⟨h0,_⟩ | ⟨g',cap',cur,h0,hb,hg,hr⟩
 ·cases h0
 ·cases h0;have:=World.ownsRow.cellAt (w:=w) (base:=base) (e:=3) (size:=1) (g:=g) (n:=L.length) (cap:=cap) (xs:=L.map iv) h.own i (by omega);rw[this];simp [it,hi]
theorem eX.froz(h:eX w base bq oq (.slice (some ⟨g,0,none⟩) n cap) L)(i:Nat):w.frozen? ⟨g,i,none⟩=false:=by
 obtain⟨h1,h2⟩:=h.own;rcases h2 with⟨h0,_⟩ | ⟨g',cap',cur,h0,hb,hg,hr⟩
 ·cases h0
 ·cases h0;exact World.ownsRow.frozenAt (w:=w) (base:=base) (e:=3) (size:=1) (g:=g) (n:=L.length) (cap:=cap) (xs:=L.map iv) h.own i
theorem eX.len(h:eX w base bq oq (.slice (some ⟨g,0,none⟩) n cap) L):n=L.length/\n<=cap:=by
 rcases h.own.2 with⟨h0,_⟩ | ⟨g',cap',cur,h0,hb,hg,hr,_⟩
 ·cases h0
 ·cases h0;exact⟨rfl,hr⟩
theorem eX.store(h:eX w base bq oq (.slice (some ⟨g,0,none⟩) n cap) L)(i:Nat)(x:Int):
  eX (w.setCell ⟨g,i,none⟩ (iv x)) base bq oq (.slice (some ⟨g,0,none⟩) n cap) (L.set i x)/\QFr bq oq (.slice (some ⟨g,0,none⟩) n cap) (.slice (some ⟨g,0,none⟩) n cap) w (w.setCell ⟨g,i,none⟩ (iv x)):=by
 have hne:g≠bq:=λe=>h.apart (by rw[<-e];rfl)
 obtain⟨hl,hc⟩:=h.len;subst hl;obtain⟨s1,s2⟩:=World.ownsRow.stored h.own i (iv x);refine⟨⟨?_,?_,?_,h.apart⟩,⟨rfl,rfl,rfl,s2.size,λk hk h1 h2=>s2.block k hk (λe=>h2 e.symm),λo ho=>?_,λo=>?_,.inl rfl⟩⟩
 ·rw[uC _ (.inl hne)];exact h.hd
 ·rw[World.frozen?_setCell];exact h.hf
 ·rw[List.length_set,List.map_set];exact s1
 ·exact uC _ (.inl hne)
 ·rw[World.frozen?_setCell]
theorem eX.swap(h:eX w base bq oq (.slice (some ⟨g,0,none⟩) n cap) L)(i j:Nat)
  (h1:w'.heap=((w.setCell ⟨g,i,none⟩ (iv (it L j))).setCell ⟨g,j,none⟩ (iv (it L i))).heap) (h2:w'.os=w.os) (h3:w'.tape=w.tape) (h4:w'.output=w.output) :
  eX w' base bq oq (.slice (some ⟨g,0,none⟩) n cap) (swp L i j)/\QFr bq oq (.slice (some ⟨g,0,none⟩) n cap) (.slice (some ⟨g,0,none⟩) n cap) w w':=by
 obtain⟨a1,a2⟩:=h.store i (it L j);obtain⟨b1,b2⟩:=a1.store j (it L i);have q:=a2.trans b2;have hb:∀k:Nat,w'.heap[k]?=((w.setCell ⟨g,i,none⟩ (iv (it L j))).setCell ⟨g,j,none⟩ (iv (it L i))).heap[k]?:=λk=>by rw[h1]
 refine⟨⟨(World.cell?_of_block (a:=⟨bq,oq,none⟩) (hb bq)).trans b1.hd,(World.frozen?_of_block (a:=⟨bq,oq,none⟩) (hb bq)).trans b1.hf,uN b1.own (λk _=>hb k),h.apart⟩,
  ⟨h2,h3,h4,by rw[h1];exact q.size,λk hk x y=>(hb k).trans (q.block k hk x y),λo ho=>(World.cell?_of_block (a:=⟨bq,o,none⟩) (hb bq)).trans (q.hdr o ho),λo=>(World.frozen?_of_block (a:=⟨bq,o,none⟩) (hb bq)).trans (q.hfr o),.inl rfl⟩⟩
theorem c3d(w:World)(base bq oq g n cap i j:Nat)(L:List Int)(h:eX w base bq oq (.slice (some ⟨g,0,none⟩) n cap) L)(hi:i<n)(hj:j<n):
  Calls Tryz.prog 171 #[.pointer (some ⟨bq,oq,none⟩),.int .i64 i,.int .i64 j] w λe w'=>e=.returned (.tuple #[])/\eX w' base bq oq (.slice (some ⟨g,0,none⟩) n cap) (swp L i j)/\QFr bq oq (.slice (some ⟨g,0,none⟩) n cap) (.slice (some ⟨g,0,none⟩) n cap) w w':=by
 have hl:=h.len.1;by_cases e:i=j
 ·subst e;refine Calls.mono (swap_eq w bq oq g 0 n cap i (it L i) h.hd (by simpa using h.cell i (by omega)) (by simpa using h.froz i) hi) ?_;intro e w' ⟨r,hh,ho,ht,hout⟩;exact⟨r,h.swap i i (by rw[hh];simp) ho ht hout⟩
 ·refine Calls.mono (swap_ne w bq oq g 0 n cap i j (it L i) (it L j) h.hd (by simpa using h.cell i (by omega)) (by simpa using h.cell j (by omega)) (by simpa using h.froz i) (by simpa using h.froz j) hi hj e) ?_;intro e w' ⟨r,hh,ho,ht,hout⟩;exact⟨r,h.swap i j (by rw[hh];simp) ho ht hout⟩
end Go.Proofs.YtddkhnclmeikfaaGreat
