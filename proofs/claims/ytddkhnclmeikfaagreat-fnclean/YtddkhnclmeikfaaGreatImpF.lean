import Derived.Test.YtddkhnclmeikfaaGreatSpecD
import Derived.BigRegion
import Derived.Deep.AppendLies
import Derived.Laws.OwnMore
import Derived.WalkSmall
set_option maxRecDepth 100000
set_option maxHeartbeats 1000000
namespace Go.Proofs.YtddkhnclmeikfaaGreat
open Go.RowKit
attribute [local go_sem ↓] Go.wp_at_zero Go.wp_at_succ
variable{L M:List Int}{w w':World}{bq oq base a n g cap kr kc kg kn s b:Nat}{v v' v2:Value}{ar ac ag an:Option Addr}{x lo hi:Int}
theorem uN{e size:Nat}{xs:List Value}(h:w.ownsRow base e size v n xs)(hb:∀k,v.ownBlock=some k->w'.heap[k]?=w.heap[k]?):w'.ownsRow base e size v n xs:=by
 refine⟨h.1,?_⟩;rcases h.2 with h' | ⟨g,cap,cur,rfl,h1,h2,h3⟩
 ·exact .inl h'
 ·exact .inr ⟨g,cap,cur,rfl,h1,(hb g rfl).trans h2,h3⟩
def it(L:List Int)(i:Nat):Int:=L.getD i 0
theorem a8x(L:List Int)(i:Nat)(h:i<L.length):L[i]=it L i:=by simp [it,h]
def swp(L:List Int)(i j:Nat):List Int:=(L.set i (it L j)).set j (it L i)
theorem a0t(L:List Int)(i j:Nat):(swp L i j).length=L.length:=by simp [swp]
theorem a3p(L:List Int)(i j k:Nat)(hi:i<L.length)(hj:j<L.length):it (swp L i j) k=if k=j then it L i else if k=i then it L j else it L k:=by
 simp only [it,swp,List.getD_eq_getElem?_getD,List.getElem?_set];by_cases h1:j=k
 ·subst h1;simp [hj]
 ·have h1':¬k=j:=λe=>h1 e.symm
  by_cases h2:i=k
  ·subst h2;simp [h1,h1',hi]
  ·have h2':¬k=i:=λe=>h2 e.symm
   simp [h1,h2,h1',h2']
theorem a3q(L:List Int)(i j:Nat)(hi:i<L.length)(hj:j<L.length):(swp L i j).Perm L:=by
 have:=List.set_set_perm hi hj;rw[a8x L i hi,a8x L j hj] at this;exact this
def Ho(L:List Int):Prop:=∀i,0<i->i<L.length->it L ((i-1) / 2)<=it L i
theorem Ho.root{L:List Int}(h:Ho L):∀i,i<L.length->it L 0<=it L i:=by
 intro i
 induction i using Nat.strongRecOn with
 | ind i ih=>
  intro hi;by_cases h0:i=0
  ·subst h0;exact Int.le_refl _
  ·have h1:=h i (by omega) hi;have h2:=ih ((i-1) / 2) (by omega) (by omega);omega
theorem a2n(L:List Int)(i:Nat)(h:i<L.length):it L i∈L:=by rw[<-a8x L i h];exact List.getElem_mem h
theorem Ho.least(h:Ho L)(hx:x∈L):it L 0<=x:=by
 obtain⟨i,hi,e⟩:=List.getElem_of_mem hx;rw[<-e,a8x L i hi];exact h.root i hi
theorem Ho.nil:Ho []:=λi _ h=>by simp at h
def a8y(L:List Int)(a:Nat):Prop:=
 (∀i,0<i->i<L.length->i≠a->it L ((i-1) / 2)<=it L i)/\(∀i,0<i->i<L.length->(i-1) / 2=a->0<a->it L ((a-1) / 2)<=it L i)
theorem b4u(L:List Int)(x:Int)(i:Nat):it (L++[x]) i=if i<L.length then it L i else if i=L.length then x else 0:=by
 simp only [it,List.getD_eq_getElem?_getD];by_cases h:i<L.length
 ·simp [h,List.getElem?_append_left]
 ·by_cases h2:i=L.length
  ·subst h2;simp
  ·rw[List.getElem?_eq_none (by simp;omega)];simp [h,h2]
theorem a8y.V(h:Ho L)(x:Int):a8y (L++[x]) L.length:=by
 refine⟨λi h0 hi hne=>?_,λi h0 hi he=>?_⟩
 ·simp at hi;rw[b4u,b4u,if_pos (by omega),if_pos (by omega)];exact h i h0 (by omega)
 ·simp at hi;omega
theorem a8y.top(h:a8y L 0):Ho L:=λi h0 hi=>h.1 i h0 hi (by omega)
theorem a8y.done(h:a8y L a)(hc:it L ((a-1) / 2)<=it L a):Ho L:=λi h0 hi=>by
 by_cases e:i=a
 ·subst e;exact hc
 ·exact h.1 i h0 hi e
theorem a8y.up{u:Nat}(h:a8y L a)(ha:0<a)(hl:a<L.length)(hu:u=(a-1) / 2)(hc:it L a<it L u):a8y (swp L u a) u:=by
 have hul:u<L.length:=by omega
 refine⟨λi h0 hi hne=>?_,λi h0 hi he hp=>?_⟩
 ·rw[a0t] at hi;rw[a3p L u a _ hul hl,a3p L u a _ hul hl];by_cases e1:i=a
  ·subst e1;rw[if_pos rfl,if_neg (by omega),if_pos hu.symm];omega
  ·rw[if_neg e1,if_neg hne];by_cases e2:(i-1) / 2=a
   ·rw[if_pos e2];have:=h.2 i h0 hi e2 ha;rw[hu];exact this
   ·rw[if_neg e2];by_cases e3:(i-1) / 2=u
    ·rw[if_pos e3];have:=h.1 i h0 hi e1;rw[e3] at this;omega
    ·rw[if_neg e3];exact h.1 i h0 hi e1
 ·rw[a0t] at hi;rw[a3p L u a _ hul hl,a3p L u a _ hul hl];rw[if_neg (by omega),if_neg (by omega)];have hup:=h.1 u hp hul (by omega);by_cases e1:i=a
  ·rw[if_pos e1];exact hup
  ·rw[if_neg e1,if_neg (by omega)];have:=h.1 i h0 hi e1;rw[he] at this;omega
def a5c(L:List Int)(a:Nat):Prop:=
 (∀i,0<i->i<L.length->(i-1) / 2≠a->it L ((i-1) / 2)<=it L i)/\(∀i,0<i->i<L.length->(i-1) / 2=a->0<a->it L ((a-1) / 2)<=it L i)
theorem a5c.bottom(h:a5c L a)(hb:L.length<=2*a+1):Ho L:=λi h0 hi=>h.1 i h0 hi (by omega)
def a3d(L:List Int)(a s:Nat):Prop:=(s=2*a+1\/s=2*a+2)/\s<L.length/\(∀i,0<i->i<L.length->(i-1) / 2=a->it L s<=it L i)
theorem a3d.right(h:2*a+2<L.length)(hc:it L (2*a+2)<it L (2*a+1)):a3d L a (2*a+2):=
 ⟨.inr rfl,h,λi h0 hi e=>by
  by_cases q:i=2*a+2
  ·rw[q];exact Int.le_refl _
  ·have:i=2*a+1:=by omega
   rw[this];omega⟩
theorem a3d.left(h:2*a+1<L.length)(hc:2*a+2<L.length->it L (2*a+1)<=it L (2*a+2)):a3d L a (2*a+1):=
 ⟨.inl rfl,h,λi h0 hi e=>by
  by_cases q:i=2*a+1
  ·rw[q];exact Int.le_refl _
  ·have:i=2*a+2:=by omega
   rw[this];exact hc (by omega)⟩
theorem a5c.done(h:a5c L a)(hs:a3d L a s)(hc:it L a<=it L s):Ho L:=λi h0 hi=>by
 by_cases e:(i-1) / 2=a
 ·have:=hs.2.2 i h0 hi e;rw[e];omega
 ·exact h.1 i h0 hi e
theorem a5c.down(h:a5c L a)(hs:a3d L a s)(hc:it L s<it L a):a5c (swp L a s) s:=by
 obtain⟨hs1,hsl,hs2⟩:=hs;have hal:a<L.length:=by omega
 refine⟨λi h0 hi hne=>?_,λi h0 hi he hp=>?_⟩
 ·rw[a0t] at hi;rw[a3p L a s _ hal hsl,a3p L a s _ hal hsl];rw[if_neg hne];by_cases e1:i=s
  ·subst e1;rw[if_pos (by omega),if_pos rfl];omega
  ·rw[if_neg e1];by_cases e2:(i-1) / 2=a
   ·rw[if_pos e2,if_neg (by omega)];exact hs2 i h0 hi e2
   ·rw[if_neg e2];by_cases e3:i=a
    ·subst e3;rw[if_pos rfl];exact h.2 s (by omega) hsl (by omega) h0
    ·rw[if_neg e3];exact h.1 i h0 hi e2
 ·rw[a0t] at hi;rw[a3p L a s _ hal hsl,a3p L a s _ hal hsl];have e0:(s-1) / 2=a:=by omega
  rw[e0,if_neg (by omega),if_pos rfl,if_neg (by omega),if_neg (by omega)];have:=h.1 i h0 hi (by omega);rw[he] at this;exact this
def b6a(L:List Int):List Int:=(swp L 0 (L.length-1)).take (L.length-1)
theorem c7d(L:List Int):(b6a L).length=L.length-1:=by simp [b6a,a0t]
theorem c2r(L:List Int)(n i:Nat)(h:i<n):it (L.take n) i=it L i:=by simp [it,h]
theorem c3v(L:List Int)(h:0<L.length):(it L 0::b6a L).Perm L:=by
 have h1:=a3q L 0 (L.length-1) h (by omega)
 have hs:swp L 0 (L.length-1)=b6a L++[it L 0]:=by
  have h2:=List.take_append_getElem (l:=swp L 0 (L.length-1)) (i:=L.length-1) (by rw[a0t];omega);rw[a8x,a3p L 0 _ _ h (by omega),if_pos rfl] at h2;have:L.length-1+1=(swp L 0 (L.length-1)).length:=by rw[a0t];omega
  rw[this,List.take_length] at h2;exact h2.symm
 rw[hs] at h1;exact(List.perm_append_singleton _ _).symm.trans h1
theorem a5c.V(h:Ho L):a5c (b6a L) 0:=by
 refine⟨λi h0 hi hne=>?_,λi h0 hi he hp=>by omega⟩;rw[c7d] at hi;unfold b6a;rw[c2r _ _ _ (by omega),c2r _ _ _ (by omega),a3p L 0 _ _ (by omega) (by omega),a3p L 0 _ _ (by omega) (by omega),if_neg (by omega),if_neg hne,if_neg (by omega),if_neg (by omega)];exact h i h0 (by omega)
theorem b1z(hp:(x::M).Perm L)(hL:Ho L)(hx:x=it L 0)(hM:Ho M)(hm:M=[]\/it M 0≠x):L.Nodup↔M.Nodup:=by
 rw[<-hp.nodup_iff,List.nodup_cons];refine⟨λh=>h.2,λh=>⟨λhmem=>?_,h⟩⟩;rcases hm with e | e
 ·rw[e] at hmem;cases hmem
 ·have h1:=hM.least hmem;have hne:M≠[]:=List.ne_nil_of_mem hmem;have h2:it M 0∈M:=a2n M 0 (by cases M with | nil=>exact(hne rfl).elim | cons _ _=>simp);have h3:=hL.least (hp.mem_iff.1 (List.mem_cons_of_mem _ h2));omega
theorem b7n(hp:(x::M).Perm L)(hm:0<M.length)(e:it M 0=x):¬L.Nodup:=by
 rw[<-hp.nodup_iff,List.nodup_cons];exact λh=>h.1 (by rw[<-e];exact a2n M 0 hm)
theorem swap_ne(w:World)(bq oq g og n cap i j:Nat)(xi xj:Int)(hf:w.cell? ⟨bq,oq,none⟩=some (.slice (some ⟨g,og,none⟩) n cap))(ci:w.cell? ⟨g,og+i,none⟩=some (iv xi))(cj:w.cell? ⟨g,og+j,none⟩=some (iv xj))(fi:w.frozen? ⟨g,og+i,none⟩=false)(fj:w.frozen? ⟨g,og+j,none⟩=false)(hi:i<n)(hj:j<n)(hij:i≠j):
  Calls Tryz.prog 171 #[.pointer (some ⟨bq,oq,none⟩),.int .i64 i,.int .i64 j] w λe w'=>e=.returned (.tuple #[])/\w'.heap=((w.setCell ⟨g,og+i,none⟩ (iv xj)).setCell ⟨g,og+j,none⟩ (iv xi)).heap/\w'.os=w.os/\w'.tape=w.tape/\w'.output=w.output:=by
 have hi0:(0:Int)<=(i:Int):=by omega
 have hi1:(i:Int)<(n:Int):=by omega
 have hj0:(0:Int)<=(j:Int):=by omega
 have hj1:(j:Int)<(n:Int):=by omega
 go_enter Tryz.func171,Tryz.ntmps171
 go_wp2
 go_region
 all_goals go_end0
 all_goals exact⟨rfl,rfl,rfl,rfl,rfl⟩
theorem swap_eq(w:World)(bq oq g og n cap i:Nat)(xi:Int)(hf:w.cell? ⟨bq,oq,none⟩=some (.slice (some ⟨g,og,none⟩) n cap))(ci:w.cell? ⟨g,og+i,none⟩=some (iv xi))(fi:w.frozen? ⟨g,og+i,none⟩=false)(hi:i<n):
  Calls Tryz.prog 171 #[.pointer (some ⟨bq,oq,none⟩),.int .i64 i,.int .i64 i] w λe w'=>e=.returned (.tuple #[])/\w'.heap=((w.setCell ⟨g,og+i,none⟩ (iv xi)).setCell ⟨g,og+i,none⟩ (iv xi)).heap/\w'.os=w.os/\w'.tape=w.tape/\w'.output=w.output:=by
 have hi0:(0:Int)<=(i:Int):=by omega
 have hi1:(i:Int)<(n:Int):=by omega
 go_enter Tryz.func171,Tryz.ntmps171
 go_wp2
 go_region
 all_goals go_end0
 all_goals exact⟨rfl,rfl,rfl,rfl,rfl⟩
theorem a3r(w:World)(bq oq:Nat)(ad:Option Addr)(cap:Nat)(hf:w.cell? ⟨bq,oq,none⟩=some (.slice ad 0 cap)):
  Calls Tryz.prog 227 #[.pointer (some ⟨bq,oq,none⟩)] w λe w'=>e=.returned (.tuple #[.int .i64 0,.bool false])/\w'=w:=by
 go_enter Tryz.func227,Tryz.ntmps227
 go_wp2
 go_ret2;exact⟨rfl,rfl⟩
theorem a1m(w:World)(bq oq g og n cap:Nat)(x0:Int)(hn:0<n)(hf:w.cell? ⟨bq,oq,none⟩=some (.slice (some ⟨g,og,none⟩) n cap))(c0:w.cell? ⟨g,og,none⟩=some (iv x0)):
  Calls Tryz.prog 227 #[.pointer (some ⟨bq,oq,none⟩)] w λe w'=>e=.returned (.tuple #[.int .i64 x0,.bool true])/\w'=w:=by
 have h0:((n:Int) == 0)=false:=beq_eq_false_iff_ne.2 (by omega);have h1:(0:Int)<(n:Int):=by omega
 go_enter Tryz.func227,Tryz.ntmps227
 go_wp2
 go_ret2;exact⟨rfl,rfl⟩
structure eK(w:World)(base bq oq:Nat)(v:Value)(L:List Int):Prop where
 hd:w.cell? ⟨bq,oq,none⟩=some v
 hf:w.frozen? ⟨bq,oq,none⟩=false
 own:w.ownsRow base 3 1 v L.length (L.map iv)
 apart:v.ownBlock≠some bq
structure QFr(bq oq:Nat)(v v':Value)(w w':World):Prop where
 os:w'.os=w.os
 tape:w'.tape=w.tape
 output:w'.output=w.output
 size:w.heap.size<=w'.heap.size
 block:∀k,k<w.heap.size->k≠bq->v.ownBlock≠some k->w'.heap[k]?=w.heap[k]?
 hdr:∀o,o≠oq->w'.cell? ⟨bq,o,none⟩=w.cell? ⟨bq,o,none⟩
 hfr:∀o,w'.frozen? ⟨bq,o,none⟩=w.frozen? ⟨bq,o,none⟩
 own:v'.ownBlock=v.ownBlock\/∃g,v'.ownBlock=some g/\w.heap.size<=g
theorem QFr.refl(bq oq:Nat)(v:Value)(w:World):QFr bq oq v v w w:=⟨rfl,rfl,rfl,Nat.le_refl _,λ_ _ _ _=>rfl,λ_ _=>rfl,λ_=>rfl,.inl rfl⟩
theorem QFr.trans{v1:Value}{w1 w2:World}(h:QFr bq oq v v1 w w1)(k:QFr bq oq v1 v2 w1 w2):QFr bq oq v v2 w w2:=
 ⟨k.os.trans h.os,k.tape.trans h.tape,k.output.trans h.output,Nat.le_trans h.size k.size,
  λi hi hne hv=>(k.block i (Nat.lt_of_lt_of_le hi h.size) hne (λe=>by
   rcases h.own with h1 | ⟨g,h1,h2⟩
   ·rw[h1] at e;exact hv e
   ·rw[h1] at e;cases e;omega)).trans (h.block i hi hne hv),
  λo ho=>(k.hdr o ho).trans (h.hdr o ho),λo=>(k.hfr o).trans (h.hfr o),by
   rcases k.own with h1 | ⟨g,h1,h2⟩
   ·rcases h.own with h3 | ⟨g,h3,h4⟩
    ·exact .inl (h1.trans h3)
    ·exact .inr ⟨g,h1.trans h3,h4⟩
   ·exact .inr ⟨g,h1,Nat.le_trans h.size h2⟩⟩
theorem QFr.ext{a:World}(h:QFr bq oq v v' w w')(e:Ext a w)(hb:a.heap.size<=bq)(hv:∀k,v.ownBlock=some k->a.heap.size<=k):Ext a w':=
 Below.trans e ⟨h.os,h.tape,h.output,h.size,λk hk=>h.block k (Nat.lt_of_lt_of_le hk e.size) (by omega) (λq=>by have:=hv k q;omega)⟩
theorem QFr.drewN(h:QFr bq oq v v' w w')(n:Nat):QFr bq oq v v' w (w'.drewN n):=⟨h.os,h.tape,h.output,h.size,h.block,h.hdr,h.hfr,h.own⟩
theorem QFr.A(h:QFr bq oq v v' w w'){o:Nat}{u:Value}(hc:w.cell? ⟨b,o,none⟩=some u)(hb:b≠bq)(hv:v.ownBlock≠some b):w'.cell? ⟨b,o,none⟩=some u:=
 (World.cell?_of_block (w:=w) (w':=w') (a:=⟨b,o,none⟩) (h.block b (uL hc) hb hv)).trans hc
theorem eK.hlt(h:eK w base bq oq v L):bq<w.heap.size:=uL h.hd
theorem eK.rlt(h:eK w base bq oq v L):∀k,v.ownBlock=some k->base<=k/\k<w.heap.size:=h.own.lt
theorem eK.ext(h:eK w base bq oq v L)(e:Ext w w'):eK w' base bq oq v L:=
 ⟨e.keep h.hd,by rw[e.frozen (p:=⟨bq,oq,none⟩) h.hlt];exact h.hf,uN h.own (λk hk=>e.block k (h.rlt k hk).2),h.apart⟩
theorem eK.other{b2 o2:Nat}(h:eK w base b2 o2 v2 L)(q:QFr bq oq v v' w w')(hb:b2≠bq)(h1:v.ownBlock≠some b2)(h2:v2.ownBlock≠some bq)(h3:∀k,v2.ownBlock=some k->v.ownBlock≠some k):eK w' base b2 o2 v2 L:=by
 have hbl:w'.heap[b2]?=w.heap[b2]?:=q.block b2 h.hlt hb h1;refine⟨(World.cell?_of_block (w:=w) (w':=w') (a:=⟨b2,o2,none⟩) hbl).trans h.hd,(World.frozen?_of_block (w:=w) (w':=w') (a:=⟨b2,o2,none⟩) hbl).trans h.hf,uN h.own (λk hk=>q.block k (h.rlt k hk).2 (λe=>h2 (e ▸ hk)) (h3 k hk)),h.apart⟩
theorem eK.nil(hd:w.cell? ⟨bq,oq,none⟩=some (.slice none 0 0))(hf:w.frozen? ⟨bq,oq,none⟩=false):eK w base bq oq (.slice none 0 0) []:=
 ⟨hd,hf,World.ownsRow_nil _ _ _ _,by simp [Value.ownBlock]⟩
theorem eK.form(h:eK w base bq oq v L)(hn:0<L.length):∃g cap,v=.slice (some ⟨g,0,none⟩) L.length cap/\g≠bq:=by
 obtain⟨g,cap,rfl,_,_⟩:=h.own.form hn;exact⟨g,cap,rfl,λe=>h.apart (by rw[<-e];rfl)⟩
theorem eK.empty(h:eK w base bq oq v L)(hn:L.length=0):∃ad cap,v=.slice ad 0 cap:=by
 rcases h.own.2 with⟨h1,_⟩ | ⟨g,cap,cur,h1,_⟩
 ·exact⟨none,0,h1⟩
 ·rw[hn] at h1;exact⟨_,_,h1⟩
theorem eK.cell(h:eK w base bq oq (.slice (some ⟨g,0,none⟩) n cap) L)(i:Nat)(hi:i<L.length):w.cell? ⟨g,i,none⟩=some (iv (it L i)):=by
 obtain⟨h1,h2⟩:=h.own;rcases h2 with⟨h0,_⟩ | ⟨g',cap',cur,h0,hb,hg,hr⟩
 ·cases h0
 ·cases h0;have:=World.ownsRow.cellAt (w:=w) (base:=base) (e:=3) (size:=1) (g:=g) (n:=L.length) (cap:=cap) (xs:=L.map iv) h.own i (by omega);rw[this];simp [it,hi]
theorem eK.froz(h:eK w base bq oq (.slice (some ⟨g,0,none⟩) n cap) L)(i:Nat):w.frozen? ⟨g,i,none⟩=false:=by
 obtain⟨h1,h2⟩:=h.own;rcases h2 with⟨h0,_⟩ | ⟨g',cap',cur,h0,hb,hg,hr⟩
 ·cases h0
 ·cases h0;exact World.ownsRow.frozenAt (w:=w) (base:=base) (e:=3) (size:=1) (g:=g) (n:=L.length) (cap:=cap) (xs:=L.map iv) h.own i
theorem eK.len(h:eK w base bq oq (.slice (some ⟨g,0,none⟩) n cap) L):n=L.length/\n<=cap:=by
 rcases h.own.2 with⟨h0,_⟩ | ⟨g',cap',cur,h0,hb,hg,hr,_⟩
 ·cases h0
 ·cases h0;exact⟨rfl,hr⟩
theorem eK.store(h:eK w base bq oq (.slice (some ⟨g,0,none⟩) n cap) L)(i:Nat)(x:Int):
  eK (w.setCell ⟨g,i,none⟩ (iv x)) base bq oq (.slice (some ⟨g,0,none⟩) n cap) (L.set i x)/\QFr bq oq (.slice (some ⟨g,0,none⟩) n cap) (.slice (some ⟨g,0,none⟩) n cap) w (w.setCell ⟨g,i,none⟩ (iv x)):=by
 have hne:g≠bq:=λe=>h.apart (by rw[<-e];rfl)
 obtain⟨hl,hc⟩:=h.len;subst hl;obtain⟨s1,s2⟩:=World.ownsRow.stored h.own i (iv x);refine⟨⟨?_,?_,?_,h.apart⟩,⟨rfl,rfl,rfl,s2.size,λk hk h1 h2=>s2.block k hk (λe=>h2 e.symm),λo ho=>?_,λo=>?_,.inl rfl⟩⟩
 ·rw[uC _ (.inl hne)];exact h.hd
 ·rw[World.frozen?_setCell];exact h.hf
 ·rw[List.length_set,List.map_set];exact s1
 ·exact uC _ (.inl hne)
 ·rw[World.frozen?_setCell]
theorem eK.swap(h:eK w base bq oq (.slice (some ⟨g,0,none⟩) n cap) L)(i j:Nat)
  (h1:w'.heap=((w.setCell ⟨g,i,none⟩ (iv (it L j))).setCell ⟨g,j,none⟩ (iv (it L i))).heap) (h2:w'.os=w.os) (h3:w'.tape=w.tape) (h4:w'.output=w.output) :
  eK w' base bq oq (.slice (some ⟨g,0,none⟩) n cap) (swp L i j)/\QFr bq oq (.slice (some ⟨g,0,none⟩) n cap) (.slice (some ⟨g,0,none⟩) n cap) w w':=by
 obtain⟨a1,a2⟩:=h.store i (it L j);obtain⟨b1,b2⟩:=a1.store j (it L i);have q:=a2.trans b2;have hb:∀k:Nat,w'.heap[k]?=((w.setCell ⟨g,i,none⟩ (iv (it L j))).setCell ⟨g,j,none⟩ (iv (it L i))).heap[k]?:=λk=>by rw[h1]
 refine⟨⟨(World.cell?_of_block (a:=⟨bq,oq,none⟩) (hb bq)).trans b1.hd,(World.frozen?_of_block (a:=⟨bq,oq,none⟩) (hb bq)).trans b1.hf,uN b1.own (λk _=>hb k),h.apart⟩,
  ⟨h2,h3,h4,by rw[h1];exact q.size,λk hk x y=>(hb k).trans (q.block k hk x y),λo ho=>(World.cell?_of_block (a:=⟨bq,o,none⟩) (hb bq)).trans (q.hdr o ho),λo=>(World.frozen?_of_block (a:=⟨bq,o,none⟩) (hb bq)).trans (q.hfr o),.inl rfl⟩⟩
theorem c2s(w:World)(base bq oq g n cap i j:Nat)(L:List Int)(h:eK w base bq oq (.slice (some ⟨g,0,none⟩) n cap) L)(hi:i<n)(hj:j<n):
  Calls Tryz.prog 171 #[.pointer (some ⟨bq,oq,none⟩),.int .i64 i,.int .i64 j] w λe w'=>e=.returned (.tuple #[])/\eK w' base bq oq (.slice (some ⟨g,0,none⟩) n cap) (swp L i j)/\QFr bq oq (.slice (some ⟨g,0,none⟩) n cap) (.slice (some ⟨g,0,none⟩) n cap) w w':=by
 have hl:=h.len.1;by_cases e:i=j
 ·subst e;refine Calls.mono (swap_eq w bq oq g 0 n cap i (it L i) h.hd (by simpa using h.cell i (by omega)) (by simpa using h.froz i) hi) ?_;intro e w' ⟨r,hh,ho,ht,hout⟩;exact⟨r,h.swap i i (by rw[hh];simp) ho ht hout⟩
 ·refine Calls.mono (swap_ne w bq oq g 0 n cap i j (it L i) (it L j) h.hd (by simpa using h.cell i (by omega)) (by simpa using h.cell j (by omega)) (by simpa using h.froz i) (by simpa using h.froz j) hi hj e) ?_;intro e w' ⟨r,hh,ho,ht,hout⟩;exact⟨r,h.swap i j (by rw[hh];simp) ho ht hout⟩
structure VAt(w:World)(b:Nat)(x:Hp)(ar:Option Addr)(kr:Nat)(ac:Option Addr)(kc:Nat)(ag:Option Addr)(kg:Nat)(an:Option Addr)(kn:Nat):Prop where
 H:HAt w b x ar kr ac kc ag kg
 n13:w.cell? ⟨b,13,none⟩=some (.slice an x.A.length kn)
 N:∀i,i<x.A.length->∃bn on bc oc,an=some ⟨bn,on,none⟩/\ac=some ⟨bc,oc,none⟩/\w.cell? ⟨bn,on+i*2,none⟩=some (iv i)/\w.cell? ⟨bn,on+i*2+1,none⟩=some (.pointer (some ⟨bc,oc+i*8,none⟩))
theorem VAt.ext{x:Hp}(h:VAt w b x ar kr ac kc ag kg an kn)(e:Ext w w'):VAt w' b x ar kr ac kc ag kg an kn:=
 ⟨h.H.ext e,e.keep h.n13,λi hi=>let ⟨bn,on,bc,oc,a,a',p,q⟩:=h.N i hi;⟨bn,on,bc,oc,a,a',e.keep p,e.keep q⟩⟩
theorem b5c(c:Cl)(bn q bc r:Nat)(ap:Option Addr)(kp:Nat)(w:World)(m1:w.cell? ⟨bn,q+1,none⟩=some (.pointer (some ⟨bc,r,none⟩)))(p7:w.cell? ⟨bc,r+7,none⟩=some (.slice ap c.F.length kp))(lp:c.F.length<=35184372088832):
  Calls Tryz.prog 119 #[.pointer (some ⟨bn,q,none⟩)] w λe w'=>e=.returned (.int .i64 (1+(c.F.length:Int)))/\w'=w:=by
 go_enter Tryz.func119,Tryz.ntmps119
 go_wp2
 go_ret;exact⟨rfl,rfl⟩
theorem b6n(x:Hp)(b:Nat)(w:World)(h:VAt w b x ar kr ac kc ag kg an kn)(hn:x.A.length<=8000)(hp:∀i,i<x.A.length->(x.c i).F.length<=200):
  Calls Tryz.prog 109 #[.pointer (some ⟨b,0,none⟩)] w λe w'=>∃r:Bool,e=.returned (.bool r)/\(r=true↔R3 x)/\Ext w w':=by
 have n13:=h.n13;have c0:=h.H.c0;have c1:=h.H.c1;go_enter Tryz.func109,Tryz.ntmps109;go_wp2_with fail
 go_loop [3,10] (λn i=>∃(k:Nat) (u:Nat),k<=x.A.length/\i=.int .i64 k/\n=.int .i64 u/\Hid (u=dL (x.A.take k))/\u<=201*k) (λ_ i=>x.A.length-(intOf i).toNat)
 case atStart=>exact⟨0,0,Nat.zero_le _,rfl,rfl,by show _=_;simp [dL],by omega⟩
 case round=>
  obtain⟨k,u,hk,rfl,rfl,hu,hu2⟩:=hrel;by_cases hlt:k<x.A.length
  ·obtain⟨b',o,ap,kp,rfl,p0,p1,p2,p3,p4,p5,p6,p7,lp,P⟩:=h.H.cell k hlt;obtain⟨bn,on,bc,oc,rfl,e2,m0,m1⟩:=h.N k hlt;cases e2;have hpk:=hp k hlt;clear P;have hk0:(0:Int)<=(k:Int):=by omega
   have hk1:(k:Int)<(x.A.length:Int):=by omega
   have hut:=a5f x.A k hlt;rw[Hp.c_eq] at hut;cases qs:((x.c k).st == 1)
   ·have qs':¬(x.c k).st=1:=by simpa using qs
    have H:Hid (u=dL (x.A.take (k+1))):=by have:=uH hu;show _=_;rw[hut,hE,if_neg qs'];omega
    clear hut;go_wp2_with fail
    go_round
    case rel=>exact⟨k+1,u,by omega,by go_num,rfl,H,by omega⟩
    case measure=>simp [intOf];omega
   ·have qs':(x.c k).st=1:=by simpa using qs
    have H:Hid (u+(1+(x.c k).F.length)=dL (x.A.take (k+1))):=by have:=uH hu;show _=_;rw[hut,hE,if_pos qs'];omega
    clear hut qs';go_wp2_with fail;refine(b5c (x.c k) bn (on+k*2) _ _ ap kp _ m1 p7 lp).mono ?_;rintro e w1 ⟨rfl,rfl⟩;go_wp2_with fail
    go_round
    case rel=>exact⟨k+1,u+(1+(x.c k).F.length),by omega,by go_num,by go_num,H,by omega⟩
    case measure=>simp [intOf];omega
  ·have hk2:k=x.A.length:=by omega
   have H:=uU (show u=dL x.A by have:=uH hu;rw[hk2,List.take_length] at this;exact this);clear hk2;cases t1:(x.K == (u:Int))
   ·have N:=uU (show ¬R3 x from λr=>by have:=uH H;have:=r.1;simp at t1;omega);go_wp2_with fail;go_ret
    first | (exact Or.inl ⟨rfl,N,Ext.refl _⟩) | (exact⟨false,rfl,⟨λf=>by simp at f,λr=>(N r).elim⟩,Ext.refl _⟩)
   ·by_cases t2:(u:Int)<=x.M
    ·have Y:=uU (show R3 x by
      have e1:=uH H;have e2:x.K=(u:Int):=by simpa using t1
      exact⟨by rw[e2,e1],by omega⟩)
     go_wp2_with fail;go_ret
     first | (exact Or.inr ⟨rfl,Y,Ext.refl _⟩) | (exact⟨true,rfl,⟨λ_=>uH Y,λ_=>rfl⟩,Ext.refl _⟩)
    ·have t3:decide ((u:Int)<=x.M)=false:=by simp;omega
     have N:=uU (show ¬R3 x from λr=>by
      have e2:x.K=(u:Int):=by simpa using t1
      have:=r.2;omega)
     clear t2;go_wp2_with fail;go_ret
     first | (exact Or.inl ⟨by simp,N,Ext.refl _⟩) | (exact⟨false,by simp,⟨λf=>by simp at f,λr=>(N r).elim⟩,Ext.refl _⟩)
theorem b1o(x:Hp)(b:Nat)(w:World)(h:VAt w b x ar kr ac kc ag kg an kn):
  Calls Tryz.prog 114 #[.pointer (some ⟨b,0,none⟩)] w λe w'=>∃r:Bool,e=.returned (.bool r)/\(r=true↔R8 x)/\Ext w w':=by
 have n13:=h.n13;have c5:=h.H.c5;have lc:=h.H.lc;cases q1:(x.E == 6)
 ·have Y:=uU (show R8 x from λi hi hb=>by simp [hb.1] at q1);have q1n:(x.E != 6)=true:=by simpa using q1
  go_enter Tryz.func114,Tryz.ntmps114;go_wp2_with fail;go_ret
  first | (exact Or.inr ⟨rfl,Y,Ext.refl _⟩) | (exact⟨true,rfl,⟨λ_=>uH Y,λ_=>rfl⟩,Ext.refl _⟩)
 ·have q1n:(x.E != 6)=false:=by simpa using q1
  have PH:=uU (show x.E=6 by simpa using q1);go_enter Tryz.func114,Tryz.ntmps114;go_wp2_with fail;go_loopw [16] (λi wr=>∃(k:Nat),k<=x.A.length/\i=.int .i64 k/\(∀j,j<k->¬(x.E=6/\x.I<=j/\(x.c j).st=2))/\Ext w wr) (λi _=>x.A.length-(intOf i).toNat)
  case atStart=>exact⟨0,Nat.zero_le _,rfl,λj hj=>by omega,Ext.refl _⟩
  case round=>
   obtain⟨k,hk,rfl,hall,hbl⟩:=hrel;have HA:=uU hall;clear hall;by_cases hlt:k<x.A.length
   ·have h1:=h.ext hbl;obtain⟨b',o,ap,kp,rfl,p0,p1,p2,p3,p4,p5,p6,p7,lp,P⟩:=h1.H.cell k hlt;obtain⟨bn,on,bc,oc,rfl,e2,m0,m1⟩:=h1.N k hlt;cases e2;have d6:=h1.H.c6;have d13:=h1.n13;clear P h1 n13 c5;have hk0:(0:Int)<=(k:Int):=by omega
    have hk1:(k:Int)<(x.A.length:Int):=by omega
    have step:¬(x.E=6/\x.I<=k/\(x.c k).st=2)->Hid (∀j,j<k+1->¬(x.E=6/\x.I<=j/\(x.c j).st=2)):=λhn j hj=>by
     by_cases e:j=k
     ·subst e;exact hn
     ·exact HA j (by omega)
    cases q3:((x.c k).st == 2)
    ·have S:=step (by simp at q3;omega);clear step;go_wp2_with fail;go_quiet (fail);go_wp2_with fail;go_roundw
     case rel=>exact⟨k+1,by omega,by go_num,S,Ext.drewN hbl _⟩
     case measure=>simp [intOf];omega
    ·by_cases q2:x.I<=(k:Int)
     ·have N:=uU (show ¬R8 x from λr=>r k hlt ⟨PH,q2,by simpa using q3⟩);clear step;go_wp2_with fail;go_quiet (fail);go_wp2_with fail;go_ret
      first | (exact Or.inl ⟨rfl,N,Ext.drewN hbl _⟩) | (exact⟨false,rfl,⟨λf=>by simp at f,λr=>(N r).elim⟩,Ext.drewN hbl _⟩)
     ·have S:=step (by omega);clear step;go_wp2_with fail;go_quiet (fail);go_wp2_with fail;go_roundw
      case rel=>exact⟨k+1,by omega,by go_num,S,Ext.drewN hbl _⟩
      case measure=>simp [intOf];omega
   ·have Y:=uU (show R8 x from λi hi=>uH HA i (by omega));go_wp2_with fail;go_ret
    first | (exact Or.inr ⟨rfl,Y,hbl⟩) | (exact⟨true,rfl,⟨λ_=>uH Y,λ_=>rfl⟩,hbl⟩)
def zN(c:Cl):Bool:=(c.st == 1) && (c.J == 0)
def a0r(c:Cl):Bool:=(c.U == 1) || (c.U == 2)
theorem a3b{c:Cl}:a0r c=true↔cU c:=by simp [a0r,cU]
theorem a4u(c:Cl)(bn q bc r:Nat)(ap:Option Addr)(kp:Nat)(w:World)(m1:w.cell? ⟨bn,q+1,none⟩=some (.pointer (some ⟨bc,r,none⟩)))(h:CAt w bc r c ap kp):
  Calls Tryz.prog 146 #[.pointer (some ⟨bn,q,none⟩)] w λe w'=>e=.returned (.bool (zN c))/\w'=w:=by
 have p0:=h.p0;have p5:=h.p5;clear h;cases t:(c.st == 1)
 all_goals
  go_enter Tryz.func146,Tryz.ntmps146
  go_wp2
  go_ret;exact⟨by simp [zN,t],rfl⟩
theorem a2u(c:Cl)(bn q bc r:Nat)(ap:Option Addr)(kp:Nat)(w:World)(m1:w.cell? ⟨bn,q+1,none⟩=some (.pointer (some ⟨bc,r,none⟩)))(h:CAt w bc r c ap kp):
  Calls Tryz.prog 166 #[.pointer (some ⟨bn,q,none⟩)] w λe w'=>e=.returned (.bool (a0r c))/\w'=w:=by
 have p3:=h.p3;clear h;cases t:(c.U == 1)
 all_goals
  go_enter Tryz.func166,Tryz.ntmps166
  go_wp2
  go_ret;exact⟨by simp [a0r,t],rfl⟩
def a1v(x:Hp):Bool:=(x.E == 1) || (x.E == 2)
theorem b1e(x:Hp)(b:Nat)(w:World)(c5:w.cell? ⟨b,5,none⟩=some (iv x.E)):
  Calls Tryz.prog 145 #[.pointer (some ⟨b,0,none⟩)] w λe w'=>e=.returned (.bool (a1v x))/\w'=w:=by
 cases t:(x.E == 1)
 all_goals
  go_enter Tryz.func145,Tryz.ntmps145
  go_wp2
  go_ret;exact⟨by simp [a1v,t],rfl⟩
theorem c7u(c:Cl)(bn q bc r:Nat)(ap:Option Addr)(kp:Nat)(s:Bool)(hs:zN c=s)(w:World)(m1:w.cell? ⟨bn,q+1,none⟩=some (.pointer (some ⟨bc,r,none⟩)))(h:CAt w bc r c ap kp):
  Calls Tryz.prog 146 #[.pointer (some ⟨bn,q,none⟩)] w λe w'=>e=.returned (.bool s)/\w'=w:=by
 rw[<-hs];exact a4u c bn q bc r ap kp w m1 h
theorem b3b(x:Hp)(b i:Nat)(w:World)(h:VAt w b x ar kr ac kc ag kg an kn)(hi:i<x.A.length)(bn on:Nat)(ha:an=some ⟨bn,on,none⟩):
  Calls Tryz.prog 177 #[.pointer (some ⟨b,0,none⟩),.pointer (some ⟨bn,on+i*2,none⟩)] w λe w'=>e=.returned (.bool (a0n x i))/\Ext w w':=by
 obtain⟨bn',on',bc,oc,e1,rfl,m0,m1⟩:=h.N i hi;rw[ha] at e1;cases e1;obtain⟨bc',oc',ap,kp,e2,C⟩:=h.H.cell i hi;cases e2;have c5:=h.H.c5;have c6:=h.H.c6;have HW:=uU (λn s (hs:zN (x.c i)=s)=>c7u (x.c i) bn (on+i*2) bc (oc+i*8) ap kp s hs (w.drewN n) (((Ext.refl w).drewN n).keep m1) (C.ext ((Ext.refl w).drewN n)));clear h C;cases t1:(x.E == 3)
 ·go_enter Tryz.func177,Tryz.ntmps177;go_wp2_with fail;go_quiet (fail);go_wp2_with fail;go_ret;exact⟨by simp [a0n,t1],(Ext.refl w).drewN _⟩
 ·cases t2:zN (x.c i)
  ·go_enter Tryz.func177,Tryz.ntmps177;go_wp2_with fail;go_quiet ((go_at_call 146;exact Calls.quiet_of_same (HW _ _ t2)));go_wp2_with fail;go_ret;exact⟨by unfold zN at t2;unfold a0n;cases q:((x.c i).st == 1) <;> simp_all,(Ext.refl w).drewN _⟩
  ·go_enter Tryz.func177,Tryz.ntmps177;go_wp2_with fail;go_quiet ((go_at_call 146;exact Calls.quiet_of_same (HW _ _ t2)));go_wp2_with fail;go_ret;exact⟨by unfold zN at t2;unfold a0n;simp_all,(Ext.refl w).drewN _⟩
theorem a9n(x:Hp)(b bn q i:Nat)(w:World)(c5:w.cell? ⟨b,5,none⟩=some (iv x.E))(c6:w.cell? ⟨b,6,none⟩=some (iv x.I))(m0:w.cell? ⟨bn,q,none⟩=some (iv i)):
  Calls Tryz.prog 184 #[.pointer (some ⟨b,0,none⟩),.pointer (some ⟨bn,q,none⟩)] w λe w'=>e=.returned (.bool ((x.E == 2) || decide ((i:Int)<x.I)))/\Ext w w':=by
 cases t1:(x.E == 2)
 all_goals
  go_enter Tryz.func184,Tryz.ntmps184;go_wp2_with fail;go_quiet (fail);go_wp2_with fail;go_ret;exact⟨by simp,(Ext.refl w).drewN _⟩
theorem c1m(x:Hp)(b bn q i k:Nat)(w:World)(c5:w.cell? ⟨b,5,none⟩=some (iv x.E))(c6:w.cell? ⟨b,6,none⟩=some (iv x.I))(c7:w.cell? ⟨b,7,none⟩=some (iv x.sub))(m0:w.cell? ⟨bn,q,none⟩=some (iv i)):
  Calls Tryz.prog 230 #[.pointer (some ⟨b,0,none⟩),.pointer (some ⟨bn,q,none⟩),.int .i64 k] w λe w'=>e=.returned (.bool (eD x i k))/\Ext w w':=by
 cases h4:(x.E == 4)
 ·cases h5:(x.E == 5)
  ·have E:=uU (show eD x i k=true by simp at h4 h5;simp [eD,h4,h5]);go_enter Tryz.func230,Tryz.ntmps230;go_wp2_with fail;go_ret;exact⟨by rw[uH E];rfl,Ext.refl w⟩
  ·have E:=uU (show eD x i k=(decide ((i:Int)<x.I) || ((i:Int) == x.I && decide ((k:Int)<x.sub))) by simp at h5;simp [eD,h5]);cases q1:decide ((i:Int)<x.I)
   ·cases q2:((i:Int) == x.I)
    ·go_enter Tryz.func230,Tryz.ntmps230;go_wp2_with fail;go_quiet (fail);go_wp2_with fail;go_ret;exact⟨by rw[uH E,q1,q2];simp,(Ext.refl w).drewN _⟩
    ·go_enter Tryz.func230,Tryz.ntmps230;go_wp2_with fail;go_quiet (fail);go_wp2_with fail;go_ret;exact⟨by rw[uH E,q1,q2];simp,(Ext.refl w).drewN _⟩
   ·go_enter Tryz.func230,Tryz.ntmps230;go_wp2_with fail;go_quiet (fail);go_wp2_with fail;go_ret;exact⟨by rw[uH E,q1];simp,(Ext.refl w).drewN _⟩
 ·have E:=uU (show eD x i k=false by simp at h4;simp [eD,h4]);go_enter Tryz.func230,Tryz.ntmps230;go_wp2_with fail;go_ret;exact⟨by rw[uH E];rfl,Ext.refl w⟩
theorem uK{n:Int}(h:uX n lo hi=true):lo<=n/\n<=hi:=by simpa [uX] using h
theorem a0b{n:Int}(h:uX n lo hi=false):¬(lo<=n/\n<=hi):=by unfold uX at h;exact of_decide_eq_false h
theorem uJ(n lo hi:Int)(r:Bool)(h:uX n lo hi=r)(w:World):Calls Tryz.prog 78 #[.int .i64 n,.int .i64 lo,.int .i64 hi] w λe w'=>e=.returned (.bool r)/\w'=w:=by
 rw[<-h];exact c0o n lo hi w
theorem a8k(y:Wd)(b n:Nat)(an:Option Addr)(kn:Nat)(w:World)(c13:w.cell? ⟨b,13,none⟩=some (.slice an n kn))(hn:n<=35184372088832):
  Calls Tryz.prog 229 #[.pointer (some ⟨b,0,none⟩),y.v] w λe w'=>e=.returned (.bool (dJ y n))/\Ext w w':=by
 have hb:b<w.heap.size:=uL c13;cases k0:(y.k == 0)
 ·cases k1:(y.k == 1)
  ·cases k2:(y.k == 2)
   ·have E:=uU (show dJ y n=false by simp at k0 k1 k2;simp [dJ,k0,k1,k2]);go_enter Tryz.func229,Tryz.ntmps229;go_wp2_with fail;go_ret;exact⟨by rw[uH E];rfl,(Ext.refl w).alloc _⟩
   ·cases q:(y.n == 0)
    ·have E:=uU (show dJ y n=false by simp at k2;simp [dJ,k2,q]);go_enter Tryz.func229,Tryz.ntmps229;go_wp2_with fail;go_quiet (fail);go_wp2_with fail;go_ret;exact⟨by rw[uH E];rfl,((Ext.refl w).alloc _).drewN _⟩
    ·cases t:uX y.a 0 ((n:Int)-1)
     ·have E:=uU (show dJ y n=false by
       have:=a0b t;simp at k2 q;simp [dJ,k2,q];omega)
      go_enter Tryz.func229,Tryz.ntmps229;go_wp2_with fail;go_quiet ((go_at_call 78;refine Calls.quiet_of_same (uJ _ _ _ false ?_ _);assumption));go_wp2_with fail;go_ret;exact⟨by rw[uH E];rfl,((Ext.refl w).alloc _).drewN _⟩
     ·have E:=uU (show dJ y n=true by
       have:=uK t;simp at k2 q;simp [dJ,k2,q];omega)
      go_enter Tryz.func229,Tryz.ntmps229;go_wp2_with fail;go_quiet ((go_at_call 78;refine Calls.quiet_of_same (uJ _ _ _ true ?_ _);assumption));go_wp2_with fail;go_ret;exact⟨by rw[uH E];rfl,((Ext.refl w).alloc _).drewN _⟩
  ·have E:=uU (show dJ y n=(y.a == 0) by simp at k1;simp [dJ,k1]);go_enter Tryz.func229,Tryz.ntmps229;go_wp2_with fail;go_ret;exact⟨by rw[uH E];simp,(Ext.refl w).alloc _⟩
 ·have E:=uU (show dJ y n=(y.n == 0 && y.a == 0) by simp at k0;simp [dJ,k0]);cases q:(y.n == 0)
  all_goals
   go_enter Tryz.func229,Tryz.ntmps229;go_wp2_with fail;go_ret;exact⟨by rw[uH E];simp [q],(Ext.refl w).alloc _⟩
theorem a7j(y:Wd)(b:Nat)(w:World)(k2:(y.k == 2)=false):
  Calls Tryz.prog 199 #[.pointer (some ⟨b,0,none⟩),y.v] w λe w'=>e=.returned (.pointer none)/\Ext w w':=by
 have k2b:(y.k != 2)=true:=by simpa using k2
 go_enter Tryz.func199,Tryz.ntmps199;go_wp2_with fail;go_ret;exact⟨rfl,(Ext.refl w).alloc _⟩
theorem a2v(y:Wd)(b n bn on kn i:Nat)(w:World)(k2:(y.k == 2)=true)(c13:w.cell? ⟨b,13,none⟩=some (.slice (some ⟨bn,on,none⟩) n kn))(hn:i<n):
  Calls Tryz.prog 199 #[.pointer (some ⟨b,0,none⟩),.agg #[iv y.k,iv y.n,iv i]] w λe w'=>e=.returned (.pointer (some ⟨bn,on+i*2,none⟩))/\Ext w w':=by
 have hb:b<w.heap.size:=uL c13;have k2b:(y.k != 2)=false:=by simpa using k2
 have hi0:(0:Int)<=(i:Int):=by omega
 have hi1:(i:Int)<(n:Int):=by omega
 go_enter Tryz.func199,Tryz.ntmps199;go_wp2_with fail;go_quiet (fail);go_wp2_with fail;go_ret;exact⟨rfl,((Ext.refl w).alloc _).drewN _⟩
end Go.Proofs.YtddkhnclmeikfaaGreat
