import Derived.Test.YtddkhnclmeikfaaGreatLs0
import Derived.BigRegion
import Derived.Deep.AppendLies
import Derived.Maps.AppendAt
import Derived.WalkSmall
set_option maxRecDepth 100000
set_option maxHeartbeats 1000000
namespace Go.Proofs.YtddkhnclmeikfaaGreat
open Go.RowKit
attribute [local go_sem ↓] Go.wp_at_zero Go.wp_at_succ
variable{w w' W w5:World}{B bq oq base n b c bc a br cap k o g s:Nat}{v vr vc vg v' u v2:Value}{L G M:List Int}{x:Hp}{xs:List Value}{pb pk:Nat->Nat}{pa:Nat->Option Addr}{t T:TypeId}{p:Pr}{S:Nat->Prop}{ad:Option Addr}
theorem b1h{α:Type}(f:α->List Value)(c:Nat)(hc:∀a,(f a).length=c):∀(l:List α) (i j:Nat) (hi:i<l.length),j<c->(l.flatMap f)[i*c+j]?=(f l[i])[j]?
 | a::l,0,j,_,hj=>by simp only [List.flatMap_cons,Nat.zero_mul,Nat.zero_add,List.getElem_cons_zero];exact List.getElem?_append_left (by rw[hc];exact hj)
 | a::l,i+1,j,hi,hj=>by
  simp only [List.flatMap_cons,List.getElem_cons_succ];rw[List.getElem?_append_right (by rw[hc,Nat.succ_mul];omega),hc,show(i+1)*c+j-c=i*c+j by rw[Nat.succ_mul];omega];exact b1h f c hc l i j (by simpa using hi) hj
theorem b3u{α:Type}{f:α->List Value}(hc:∀a,(f a).length=c){L:List α}(h:w.ownsRow base t c v L.length (L.flatMap f)):∃ad cap,v=.slice ad L.length cap/\(0<L.length->∃g,ad=some ⟨g,0,none⟩)/\∀i (hi:i<L.length),∃g,ad=some ⟨g,0,none⟩/\base<=g/\g<w.heap.size/\∀j,j<c->w.cell? ⟨g,0+i*c+j,none⟩=(f L[i])[j]?:=by
 rcases h.2 with⟨h0,h1⟩ | ⟨g,cap,cur,h0,hb,hg,hr⟩
 ·exact⟨none,0,by rw[h0,h1],λq=>by omega,λi hi=>by omega⟩
 ·subst h0;refine⟨_,cap,rfl,λ_=>⟨g,rfl⟩,λi hi=>⟨g,rfl,(h.lt g rfl).1,(h.lt g rfl).2,λj hj=>?_⟩⟩
  have hlt:i*c+j<L.length*c:=by
   have:(i+1)*c<=L.length*c:=Nat.mul_le_mul_right c (by omega);rw[Nat.succ_mul] at this;omega
  rw[Nat.zero_add,World.ownsRow.cellAt h (i*c+j) hlt];exact b1h f c hc L i j hi hj
theorem a2k{a:World}(ea:Ext a W)(hown:W.ownsRow base t c v n xs)(hb:a.heap.size<=base)(hg:W.grownBy w5 v.ownBlock):Ext a w5:=
 Below.trans ea ⟨hg.os,hg.tape,hg.output,hg.size,λk hk=>hg.block k (Nat.lt_of_lt_of_le hk ea.size) (λe=>by have:=(hown.lt k e.symm).1;omega)⟩
theorem b1i{w3:World}{n':Nat}{ys:List Value}{bg:Nat}(hb:bg<base)(ew:Ext w3 W)(hW:W.ownsRow base T c v n xs)(h3:w3.heap.size<=bg)(hlt:bg<W.heap.size)(hg:W.grownBy w5 v.ownBlock)(h5:w5.ownsRow base T c v' n' ys):
  (w5.setCell ⟨bg,o,none⟩ u).ownsRow base T c v' n' ys/\Ext w3 (w5.setCell ⟨bg,o,none⟩ u)/\(∀o',o'≠o->(w5.setCell ⟨bg,o,none⟩ u).cell? ⟨bg,o',none⟩=W.cell? ⟨bg,o',none⟩)/\(∀o',(w5.setCell ⟨bg,o,none⟩ u).frozen? ⟨bg,o',none⟩=W.frozen? ⟨bg,o',none⟩)/\(∀y,W.cell? ⟨bg,o,none⟩=some y->(w5.setCell ⟨bg,o,none⟩ u).cell? ⟨bg,o,none⟩=some u)/\(∀q,q<W.heap.size->q≠bg->v.ownBlock≠some q->(w5.setCell ⟨bg,o,none⟩ u).heap[q]?=W.heap[q]?):=by
 have hblk:w5.heap[bg]?=W.heap[bg]?:=hg.block bg hlt (λe=>by have:=(hW.lt bg e.symm).1;omega);refine⟨uQ h5 (λq hq=>Below.heap_setCell _ _ _ _ (λe=>by have:=(h5.lt q hq).1;simp only at e;omega)),(a2k ew hW (by omega) hg).setCell h3 u,λo' ho=>?_,λo'=>?_,λy hy=>?_,λq hq hne hv=>?_⟩
 ·rw[uC _ (.inr (λe=>ho e.symm))];exact World.cell?_of_block (a:=⟨bg,o',none⟩) hblk
 ·rw[World.frozen?_setCell];exact World.frozen?_of_block (a:=⟨bg,o',none⟩) hblk
 ·exact World.cell?_setCell_same _ _ _ ((World.cell?_of_block (a:=⟨bg,o,none⟩) hblk).trans hy)
 ·exact(Below.heap_setCell _ _ _ _ hne).trans (hg.block q hq (λe=>hv e.symm))
theorem a3m{b':Nat}(h:w.ownsRow b T c v n xs)(hb:b'<=b):w.ownsRow b' T c v n xs:=
 ⟨h.1,h.2.imp id (λ⟨g,cap,cur,hv,hg,r⟩=>⟨g,cap,cur,hv,Nat.le_trans hb hg,r⟩)⟩
theorem a4j{α:Type}(f:α->List Value)(c:Nat)(hc:∀a,(f a).length=c)(L:List α):(L.flatMap f).length=L.length*c:=by
 induction L with
 | nil=>simp
 | cons a L ih=>simp [ih,hc,Nat.succ_mul];omega
theorem b6c{α:Type}(f:α->List Value)(h:∀a u,u∈f a->u.oneCell'=true)(L:List α):∀u,u∈L.flatMap f->u.oneCell'=true:=λu hu=>by
 obtain⟨a,_,h2⟩:=List.mem_flatMap.1 hu;exact h a u h2
theorem b6d(b o j:Nat):(⟨b,o,none⟩:Addr).add j=⟨b,o+j,none⟩:=by unfold Addr.add;split <;> simp_all
theorem a6v{α:Type}(f:α->List Value)(c:Nat)(h0:0<c)(hc:∀a,(f a).length=c)(L:List α)(b o:Nat)(h:∀i (hi:i<L.length),∀j,j<c->w.cell? ⟨b,o+i*c+j,none⟩=(f L[i])[j]?):∀j u,(L.flatMap f)[j]?=some u->w.cell? ((⟨b,o,none⟩:Addr).add j)=some u:=λj u hu=>by
 have hj:j<L.length*c:=by
  have:=(List.getElem?_eq_some_iff.1 hu).1
  rwa [a4j f c hc] at this
 have hq:j / c<L.length:=(Nat.div_lt_iff_lt_mul h0).2 hj;have hm:j % c<c:=Nat.mod_lt _ h0;have e:j / c*c+j % c=j:=Nat.div_add_mod' j c;rw[b6d,<-hu];have:=h (j / c) hq (j % c) hm;rw[Nat.add_assoc,e] at this;rw[this,<-b1h f c hc L (j / c) (j % c) hq hm,e]
def it(L:List Int)(i:Nat):Int:=L.getD i 0
theorem a8h(L:List Int)(i:Nat)(h:i<L.length):L[i]=it L i:=by simp [it,h]
def swp(L:List Int)(i j:Nat):List Int:=(L.set i (it L j)).set j (it L i)
theorem a0t(L:List Int)(i j:Nat):(swp L i j).length=L.length:=by simp [swp]
theorem a3n(L:List Int)(i j k:Nat)(hi:i<L.length)(hj:j<L.length):it (swp L i j) k=if k=j then it L i else if k=i then it L j else it L k:=by
 simp only [it,swp,List.getD_eq_getElem?_getD,List.getElem?_set];by_cases h1:j=k
 ·subst h1;simp [hj]
 ·have h1':¬k=j:=λe=>h1 e.symm
  by_cases h2:i=k
  ·subst h2;simp [h1,h1',hi]
  ·have h2':¬k=i:=λe=>h2 e.symm
   simp [h1,h2,h1',h2']
theorem a3o(L:List Int)(i j:Nat)(hi:i<L.length)(hj:j<L.length):(swp L i j).Perm L:=by
 have:=List.set_set_perm hi hj;rw[a8h L i hi,a8h L j hj] at this;exact this
def Ho(L:List Int):Prop:=∀i,0<i->i<L.length->it L ((i-1) / 2)<=it L i
theorem Ho.root{L:List Int}(h:Ho L):∀i,i<L.length->it L 0<=it L i:=by
 intro i
 induction i using Nat.strongRecOn with
 | ind i ih=>
  intro hi;by_cases h0:i=0
  ·subst h0;exact Int.le_refl _
  ·have h1:=h i (by omega) hi;have h2:=ih ((i-1) / 2) (by omega) (by omega);omega
theorem a2m(L:List Int)(i:Nat)(h:i<L.length):it L i∈L:=by rw[<-a8h L i h];exact List.getElem_mem h
theorem Ho.least(h:Ho L){x:Int}(hx:x∈L):it L 0<=x:=by
 obtain⟨i,hi,e⟩:=List.getElem_of_mem hx;rw[<-e,a8h L i hi];exact h.root i hi
theorem Ho.nil:Ho []:=λi _ h=>by simp at h
def a8i(L:List Int)(a:Nat):Prop:=
 (∀i,0<i->i<L.length->i≠a->it L ((i-1) / 2)<=it L i)/\(∀i,0<i->i<L.length->(i-1) / 2=a->0<a->it L ((a-1) / 2)<=it L i)
theorem b3v(L:List Int)(x:Int)(i:Nat):it (L++[x]) i=if i<L.length then it L i else if i=L.length then x else 0:=by
 simp only [it,List.getD_eq_getElem?_getD];by_cases h:i<L.length
 ·simp [h,List.getElem?_append_left]
 ·by_cases h2:i=L.length
  ·subst h2;simp
  ·rw[List.getElem?_eq_none (by simp;omega)];simp [h,h2]
theorem a8i.start(h:Ho L)(x:Int):a8i (L++[x]) L.length:=by
 refine⟨λi h0 hi hne=>?_,λi h0 hi he=>?_⟩
 ·simp at hi;rw[b3v,b3v,if_pos (by omega),if_pos (by omega)];exact h i h0 (by omega)
 ·simp at hi;omega
theorem a8i.top(h:a8i L 0):Ho L:=λi h0 hi=>h.1 i h0 hi (by omega)
theorem a8i.done(h:a8i L a)(hc:it L ((a-1) / 2)<=it L a):Ho L:=λi h0 hi=>by
 by_cases e:i=a
 ·subst e;exact hc
 ·exact h.1 i h0 hi e
theorem a8i.up{u:Nat}(h:a8i L a)(ha:0<a)(hl:a<L.length)(hu:u=(a-1) / 2)(hc:it L a<it L u):a8i (swp L u a) u:=by
 have hul:u<L.length:=by omega
 refine⟨λi h0 hi hne=>?_,λi h0 hi he hp=>?_⟩
 ·rw[a0t] at hi;rw[a3n L u a _ hul hl,a3n L u a _ hul hl];by_cases e1:i=a
  ·subst e1;rw[if_pos rfl,if_neg (by omega),if_pos hu.symm];omega
  ·rw[if_neg e1,if_neg hne];by_cases e2:(i-1) / 2=a
   ·rw[if_pos e2];have:=h.2 i h0 hi e2 ha;rw[hu];exact this
   ·rw[if_neg e2];by_cases e3:(i-1) / 2=u
    ·rw[if_pos e3];have:=h.1 i h0 hi e1;rw[e3] at this;omega
    ·rw[if_neg e3];exact h.1 i h0 hi e1
 ·rw[a0t] at hi;rw[a3n L u a _ hul hl,a3n L u a _ hul hl];rw[if_neg (by omega),if_neg (by omega)];have hup:=h.1 u hp hul (by omega);by_cases e1:i=a
  ·rw[if_pos e1];exact hup
  ·rw[if_neg e1,if_neg (by omega)];have:=h.1 i h0 hi e1;rw[he] at this;omega
def a4x(L:List Int)(a:Nat):Prop:=
 (∀i,0<i->i<L.length->(i-1) / 2≠a->it L ((i-1) / 2)<=it L i)/\(∀i,0<i->i<L.length->(i-1) / 2=a->0<a->it L ((a-1) / 2)<=it L i)
theorem a4x.bottom(h:a4x L a)(hb:L.length<=2*a+1):Ho L:=λi h0 hi=>h.1 i h0 hi (by omega)
def a3b(L:List Int)(a s:Nat):Prop:=(s=2*a+1\/s=2*a+2)/\s<L.length/\(∀i,0<i->i<L.length->(i-1) / 2=a->it L s<=it L i)
theorem a3b.right(h:2*a+2<L.length)(hc:it L (2*a+2)<it L (2*a+1)):a3b L a (2*a+2):=
 ⟨.inr rfl,h,λi h0 hi e=>by
  by_cases q:i=2*a+2
  ·rw[q];exact Int.le_refl _
  ·have:i=2*a+1:=by omega
   rw[this];omega⟩
theorem a3b.left(h:2*a+1<L.length)(hc:2*a+2<L.length->it L (2*a+1)<=it L (2*a+2)):a3b L a (2*a+1):=
 ⟨.inl rfl,h,λi h0 hi e=>by
  by_cases q:i=2*a+1
  ·rw[q];exact Int.le_refl _
  ·have:i=2*a+2:=by omega
   rw[this];exact hc (by omega)⟩
theorem a4x.done(h:a4x L a)(hs:a3b L a s)(hc:it L a<=it L s):Ho L:=λi h0 hi=>by
 by_cases e:(i-1) / 2=a
 ·have:=hs.2.2 i h0 hi e;rw[e];omega
 ·exact h.1 i h0 hi e
theorem a4x.down(h:a4x L a)(hs:a3b L a s)(hc:it L s<it L a):a4x (swp L a s) s:=by
 obtain⟨hs1,hsl,hs2⟩:=hs;have hal:a<L.length:=by omega
 refine⟨λi h0 hi hne=>?_,λi h0 hi he hp=>?_⟩
 ·rw[a0t] at hi;rw[a3n L a s _ hal hsl,a3n L a s _ hal hsl];rw[if_neg hne];by_cases e1:i=s
  ·subst e1;rw[if_pos (by omega),if_pos rfl];omega
  ·rw[if_neg e1];by_cases e2:(i-1) / 2=a
   ·rw[if_pos e2,if_neg (by omega)];exact hs2 i h0 hi e2
   ·rw[if_neg e2];by_cases e3:i=a
    ·subst e3;rw[if_pos rfl];exact h.2 s (by omega) hsl (by omega) h0
    ·rw[if_neg e3];exact h.1 i h0 hi e2
 ·rw[a0t] at hi;rw[a3n L a s _ hal hsl,a3n L a s _ hal hsl];have e0:(s-1) / 2=a:=by omega
  rw[e0,if_neg (by omega),if_pos rfl,if_neg (by omega),if_neg (by omega)];have:=h.1 i h0 hi (by omega);rw[he] at this;exact this
def b4t(L:List Int):List Int:=(swp L 0 (L.length-1)).take (L.length-1)
theorem c5c(L:List Int):(b4t L).length=L.length-1:=by simp [b4t,a0t]
theorem c0s(L:List Int)(n i:Nat)(h:i<n):it (L.take n) i=it L i:=by simp [it,h]
theorem c1t(L:List Int)(h:0<L.length):(it L 0::b4t L).Perm L:=by
 have h1:=a3o L 0 (L.length-1) h (by omega)
 have hs:swp L 0 (L.length-1)=b4t L++[it L 0]:=by
  have h2:=List.take_append_getElem (l:=swp L 0 (L.length-1)) (i:=L.length-1) (by rw[a0t];omega);rw[a8h,a3n L 0 _ _ h (by omega),if_pos rfl] at h2;have:L.length-1+1=(swp L 0 (L.length-1)).length:=by rw[a0t];omega
  rw[this,List.take_length] at h2;exact h2.symm
 rw[hs] at h1;exact(List.perm_append_singleton _ _).symm.trans h1
theorem a4x.start(h:Ho L):a4x (b4t L) 0:=by
 refine⟨λi h0 hi hne=>?_,λi h0 hi he hp=>by omega⟩;rw[c5c] at hi;unfold b4t;rw[c0s _ _ _ (by omega),c0s _ _ _ (by omega),a3n L 0 _ _ (by omega) (by omega),a3n L 0 _ _ (by omega) (by omega),if_neg (by omega),if_neg hne,if_neg (by omega),if_neg (by omega)];exact h i h0 (by omega)
theorem b1j{x:Int}(hp:(x::M).Perm L)(hL:Ho L)(hx:x=it L 0)(hM:Ho M)(hm:M=[]\/it M 0≠x):L.Nodup↔M.Nodup:=by
 rw[<-hp.nodup_iff,List.nodup_cons];refine⟨λh=>h.2,λh=>⟨λhmem=>?_,h⟩⟩;rcases hm with e | e
 ·rw[e] at hmem;cases hmem
 ·have h1:=hM.least hmem;have hne:M≠[]:=List.ne_nil_of_mem hmem;have h2:it M 0∈M:=a2m M 0 (by cases M with | nil=>exact(hne rfl).elim | cons _ _=>simp);have h3:=hL.least (hp.mem_iff.1 (List.mem_cons_of_mem _ h2));omega
theorem b6e{x:Int}(hp:(x::M).Perm L)(hm:0<M.length)(e:it M 0=x):¬L.Nodup:=by
 rw[<-hp.nodup_iff,List.nodup_cons];exact λh=>h.1 (by rw[<-e];exact a2m M 0 hm)
theorem swap_ne(w:World)(bq oq g og n cap i j:Nat)(xi xj:Int)(hf:w.cell? ⟨bq,oq,none⟩=some (.slice (some ⟨g,og,none⟩) n cap))(ci:w.cell? ⟨g,og+i,none⟩=some (iv xi))(cj:w.cell? ⟨g,og+j,none⟩=some (iv xj))(fi:w.frozen? ⟨g,og+i,none⟩=false)(fj:w.frozen? ⟨g,og+j,none⟩=false)(hi:i<n)(hj:j<n)(hij:i≠j):
  Calls Tryz.prog 171 #[.pointer (some ⟨bq,oq,none⟩),.int .i64 i,.int .i64 j] w λe w'=>e=.returned (.tuple #[])/\w'.heap=((w.setCell ⟨g,og+i,none⟩ (iv xj)).setCell ⟨g,og+j,none⟩ (iv xi)).heap/\w'.os=w.os/\w'.tape=w.tape/\w'.output=w.output:=by
 have hi0:(0:Int)<=(i:Int):=by omega
 have hi1:(i:Int)<(n:Int):=by omega
 have hj0:(0:Int)<=(j:Int):=by omega
 have hj1:(j:Int)<(n:Int):=by omega
 go_enter Tryz.func171,Tryz.ntmps171
 go_wp2
 go_region
 all_goals go_end0
 all_goals exact⟨rfl,rfl,rfl,rfl,rfl⟩
theorem swap_eq(w:World)(bq oq g og n cap i:Nat)(xi:Int)(hf:w.cell? ⟨bq,oq,none⟩=some (.slice (some ⟨g,og,none⟩) n cap))(ci:w.cell? ⟨g,og+i,none⟩=some (iv xi))(fi:w.frozen? ⟨g,og+i,none⟩=false)(hi:i<n):
  Calls Tryz.prog 171 #[.pointer (some ⟨bq,oq,none⟩),.int .i64 i,.int .i64 i] w λe w'=>e=.returned (.tuple #[])/\w'.heap=((w.setCell ⟨g,og+i,none⟩ (iv xi)).setCell ⟨g,og+i,none⟩ (iv xi)).heap/\w'.os=w.os/\w'.tape=w.tape/\w'.output=w.output:=by
 have hi0:(0:Int)<=(i:Int):=by omega
 have hi1:(i:Int)<(n:Int):=by omega
 go_enter Tryz.func171,Tryz.ntmps171
 go_wp2
 go_region
 all_goals go_end0
 all_goals exact⟨rfl,rfl,rfl,rfl,rfl⟩
theorem a3p(w:World)(bq oq:Nat)(ad:Option Addr)(cap:Nat)(hf:w.cell? ⟨bq,oq,none⟩=some (.slice ad 0 cap)):
  Calls Tryz.prog 227 #[.pointer (some ⟨bq,oq,none⟩)] w λe w'=>e=.returned (.tuple #[.int .i64 0,.bool false])/\w'=w:=by
 go_enter Tryz.func227,Tryz.ntmps227
 go_wp2
 go_ret2;exact⟨rfl,rfl⟩
theorem a1h(w:World)(bq oq g og n cap:Nat)(x0:Int)(hn:0<n)(hf:w.cell? ⟨bq,oq,none⟩=some (.slice (some ⟨g,og,none⟩) n cap))(c0:w.cell? ⟨g,og,none⟩=some (iv x0)):
  Calls Tryz.prog 227 #[.pointer (some ⟨bq,oq,none⟩)] w λe w'=>e=.returned (.tuple #[.int .i64 x0,.bool true])/\w'=w:=by
 have h0:((n:Int) == 0)=false:=beq_eq_false_iff_ne.2 (by omega);have h1:(0:Int)<(n:Int):=by omega
 go_enter Tryz.func227,Tryz.ntmps227
 go_wp2
 go_ret2;exact⟨rfl,rfl⟩
structure eX(w:World)(base bq oq:Nat)(v:Value)(L:List Int):Prop where
 hd:w.cell? ⟨bq,oq,none⟩=some v
 hf:w.frozen? ⟨bq,oq,none⟩=false
 own:w.ownsRow base 3 1 v L.length (L.map iv)
 apart:v.ownBlock≠some bq
structure QFr(bq oq:Nat)(v v':Value)(w w':World):Prop where
 os:w'.os=w.os
 tape:w'.tape=w.tape
 output:w'.output=w.output
 size:w.heap.size<=w'.heap.size
 block:∀k,k<w.heap.size->k≠bq->v.ownBlock≠some k->w'.heap[k]?=w.heap[k]?
 hdr:∀o,o≠oq->w'.cell? ⟨bq,o,none⟩=w.cell? ⟨bq,o,none⟩
 hfr:∀o,w'.frozen? ⟨bq,o,none⟩=w.frozen? ⟨bq,o,none⟩
 own:v'.ownBlock=v.ownBlock\/∃g,v'.ownBlock=some g/\w.heap.size<=g
theorem QFr.refl(bq oq:Nat)(v:Value)(w:World):QFr bq oq v v w w:=⟨rfl,rfl,rfl,Nat.le_refl _,λ_ _ _ _=>rfl,λ_ _=>rfl,λ_=>rfl,.inl rfl⟩
theorem QFr.trans{v1:Value}{w1 w2:World}(h:QFr bq oq v v1 w w1)(k:QFr bq oq v1 v2 w1 w2):QFr bq oq v v2 w w2:=
 ⟨k.os.trans h.os,k.tape.trans h.tape,k.output.trans h.output,Nat.le_trans h.size k.size,
  λi hi hne hv=>(k.block i (Nat.lt_of_lt_of_le hi h.size) hne (λe=>by
   rcases h.own with h1 | ⟨g,h1,h2⟩
   ·rw[h1] at e;exact hv e
   ·rw[h1] at e;cases e;omega)).trans (h.block i hi hne hv),
  λo ho=>(k.hdr o ho).trans (h.hdr o ho),λo=>(k.hfr o).trans (h.hfr o),by
   rcases k.own with h1 | ⟨g,h1,h2⟩
   ·rcases h.own with h3 | ⟨g,h3,h4⟩
    ·exact .inl (h1.trans h3)
    ·exact .inr ⟨g,h1.trans h3,h4⟩
   ·exact .inr ⟨g,h1,Nat.le_trans h.size h2⟩⟩
theorem QFr.ext{a:World}(h:QFr bq oq v v' w w')(e:Ext a w)(hb:a.heap.size<=bq)(hv:∀k,v.ownBlock=some k->a.heap.size<=k):Ext a w':=
 Below.trans e ⟨h.os,h.tape,h.output,h.size,λk hk=>h.block k (Nat.lt_of_lt_of_le hk e.size) (by omega) (λq=>by have:=hv k q;omega)⟩
theorem QFr.drewN(h:QFr bq oq v v' w w')(n:Nat):QFr bq oq v v' w (w'.drewN n):=⟨h.os,h.tape,h.output,h.size,h.block,h.hdr,h.hfr,h.own⟩
theorem QFr.cells(h:QFr bq oq v v' w w')(hc:w.cell? ⟨b,o,none⟩=some u)(hb:b≠bq)(hv:v.ownBlock≠some b):w'.cell? ⟨b,o,none⟩=some u:=
 (World.cell?_of_block (w:=w) (w':=w') (a:=⟨b,o,none⟩) (h.block b (uL hc) hb hv)).trans hc
theorem eX.hlt(h:eX w base bq oq v L):bq<w.heap.size:=uL h.hd
theorem eX.rlt(h:eX w base bq oq v L):∀k,v.ownBlock=some k->base<=k/\k<w.heap.size:=h.own.lt
theorem eX.ext(h:eX w base bq oq v L)(e:Ext w w'):eX w' base bq oq v L:=
 ⟨e.keep h.hd,by rw[e.frozen (p:=⟨bq,oq,none⟩) h.hlt];exact h.hf,uQ h.own (λk hk=>e.block k (h.rlt k hk).2),h.apart⟩
theorem eX.other{b2 o2:Nat}(h:eX w base b2 o2 v2 L)(q:QFr bq oq v v' w w')(hb:b2≠bq)(h1:v.ownBlock≠some b2)(h2:v2.ownBlock≠some bq)(h3:∀k,v2.ownBlock=some k->v.ownBlock≠some k):eX w' base b2 o2 v2 L:=by
 have hbl:w'.heap[b2]?=w.heap[b2]?:=q.block b2 h.hlt hb h1;refine⟨(World.cell?_of_block (w:=w) (w':=w') (a:=⟨b2,o2,none⟩) hbl).trans h.hd,(World.frozen?_of_block (w:=w) (w':=w') (a:=⟨b2,o2,none⟩) hbl).trans h.hf,uQ h.own (λk hk=>q.block k (h.rlt k hk).2 (λe=>h2 (e ▸ hk)) (h3 k hk)),h.apart⟩
theorem eX.nil(hd:w.cell? ⟨bq,oq,none⟩=some (.slice none 0 0))(hf:w.frozen? ⟨bq,oq,none⟩=false):eX w base bq oq (.slice none 0 0) []:=
 ⟨hd,hf,World.ownsRow_nil _ _ _ _,by simp [Value.ownBlock]⟩
theorem eX.form(h:eX w base bq oq v L)(hn:0<L.length):∃g cap,v=.slice (some ⟨g,0,none⟩) L.length cap/\g≠bq:=by
 obtain⟨g,cap,rfl,_,_⟩:=h.own.form hn;exact⟨g,cap,rfl,λe=>h.apart (by rw[<-e];rfl)⟩
theorem eX.empty(h:eX w base bq oq v L)(hn:L.length=0):∃ad cap,v=.slice ad 0 cap:=by
 rcases h.own.2 with⟨h1,_⟩ | ⟨g,cap,cur,h1,_⟩
 ·exact⟨none,0,h1⟩
 ·rw[hn] at h1;exact⟨_,_,h1⟩
theorem eX.cell(h:eX w base bq oq (.slice (some ⟨g,0,none⟩) n cap) L)(i:Nat)(hi:i<L.length):w.cell? ⟨g,i,none⟩=some (iv (it L i)):=by
 obtain⟨h1,h2⟩:=h.own;rcases h2 with⟨h0,_⟩ | ⟨g',cap',cur,h0,hb,hg,hr⟩
 ·cases h0
 ·cases h0;have:=World.ownsRow.cellAt (w:=w) (base:=base) (e:=3) (size:=1) (g:=g) (n:=L.length) (cap:=cap) (xs:=L.map iv) h.own i (by omega);rw[this];simp [it,hi]
theorem eX.froz(h:eX w base bq oq (.slice (some ⟨g,0,none⟩) n cap) L)(i:Nat):w.frozen? ⟨g,i,none⟩=false:=by
 obtain⟨h1,h2⟩:=h.own;rcases h2 with⟨h0,_⟩ | ⟨g',cap',cur,h0,hb,hg,hr⟩
 ·cases h0
 ·cases h0;exact World.ownsRow.frozenAt (w:=w) (base:=base) (e:=3) (size:=1) (g:=g) (n:=L.length) (cap:=cap) (xs:=L.map iv) h.own i
theorem eX.len(h:eX w base bq oq (.slice (some ⟨g,0,none⟩) n cap) L):n=L.length/\n<=cap:=by
 rcases h.own.2 with⟨h0,_⟩ | ⟨g',cap',cur,h0,hb,hg,hr,_⟩
 ·cases h0
 ·cases h0;exact⟨rfl,hr⟩
theorem eX.store(h:eX w base bq oq (.slice (some ⟨g,0,none⟩) n cap) L)(i:Nat)(x:Int):
  eX (w.setCell ⟨g,i,none⟩ (iv x)) base bq oq (.slice (some ⟨g,0,none⟩) n cap) (L.set i x)/\QFr bq oq (.slice (some ⟨g,0,none⟩) n cap) (.slice (some ⟨g,0,none⟩) n cap) w (w.setCell ⟨g,i,none⟩ (iv x)):=by
 have hne:g≠bq:=λe=>h.apart (by rw[<-e];rfl)
 obtain⟨hl,hc⟩:=h.len;subst hl;obtain⟨s1,s2⟩:=World.ownsRow.stored h.own i (iv x);refine⟨⟨?_,?_,?_,h.apart⟩,⟨rfl,rfl,rfl,s2.size,λk hk h1 h2=>s2.block k hk (λe=>h2 e.symm),λo ho=>?_,λo=>?_,.inl rfl⟩⟩
 ·rw[uC _ (.inl hne)];exact h.hd
 ·rw[World.frozen?_setCell];exact h.hf
 ·rw[List.length_set,List.map_set];exact s1
 ·exact uC _ (.inl hne)
 ·rw[World.frozen?_setCell]
theorem eX.swap(h:eX w base bq oq (.slice (some ⟨g,0,none⟩) n cap) L)(i j:Nat)
  (h1:w'.heap=((w.setCell ⟨g,i,none⟩ (iv (it L j))).setCell ⟨g,j,none⟩ (iv (it L i))).heap) (h2:w'.os=w.os) (h3:w'.tape=w.tape) (h4:w'.output=w.output) :
  eX w' base bq oq (.slice (some ⟨g,0,none⟩) n cap) (swp L i j)/\QFr bq oq (.slice (some ⟨g,0,none⟩) n cap) (.slice (some ⟨g,0,none⟩) n cap) w w':=by
 obtain⟨a1,a2⟩:=h.store i (it L j);obtain⟨b1,b2⟩:=a1.store j (it L i);have q:=a2.trans b2;have hb:∀k:Nat,w'.heap[k]?=((w.setCell ⟨g,i,none⟩ (iv (it L j))).setCell ⟨g,j,none⟩ (iv (it L i))).heap[k]?:=λk=>by rw[h1]
 refine⟨⟨(World.cell?_of_block (a:=⟨bq,oq,none⟩) (hb bq)).trans b1.hd,(World.frozen?_of_block (a:=⟨bq,oq,none⟩) (hb bq)).trans b1.hf,uQ b1.own (λk _=>hb k),h.apart⟩,
  ⟨h2,h3,h4,by rw[h1];exact q.size,λk hk x y=>(hb k).trans (q.block k hk x y),λo ho=>(World.cell?_of_block (a:=⟨bq,o,none⟩) (hb bq)).trans (q.hdr o ho),λo=>(World.frozen?_of_block (a:=⟨bq,o,none⟩) (hb bq)).trans (q.hfr o),.inl rfl⟩⟩
theorem c0t(w:World)(base bq oq g n cap i j:Nat)(L:List Int)(h:eX w base bq oq (.slice (some ⟨g,0,none⟩) n cap) L)(hi:i<n)(hj:j<n):
  Calls Tryz.prog 171 #[.pointer (some ⟨bq,oq,none⟩),.int .i64 i,.int .i64 j] w λe w'=>e=.returned (.tuple #[])/\eX w' base bq oq (.slice (some ⟨g,0,none⟩) n cap) (swp L i j)/\QFr bq oq (.slice (some ⟨g,0,none⟩) n cap) (.slice (some ⟨g,0,none⟩) n cap) w w':=by
 have hl:=h.len.1;by_cases e:i=j
 ·subst e;refine Calls.mono (swap_eq w bq oq g 0 n cap i (it L i) h.hd (by simpa using h.cell i (by omega)) (by simpa using h.froz i) hi) ?_;intro e w' ⟨r,hh,ho,ht,hout⟩;exact⟨r,h.swap i i (by rw[hh];simp) ho ht hout⟩
 ·refine Calls.mono (swap_ne w bq oq g 0 n cap i j (it L i) (it L j) h.hd (by simpa using h.cell i (by omega)) (by simpa using h.cell j (by omega)) (by simpa using h.froz i) (by simpa using h.froz j) hi hj e) ?_;intro e w' ⟨r,hh,ho,ht,hout⟩;exact⟨r,h.swap i j (by rw[hh];simp) ho ht hout⟩
def fW(y:Wd):List Value:=[iv y.k,iv y.n,iv y.a]
def fP(p:Pr):List Value:=[iv p.key.k,iv p.key.n,iv p.key.a,iv p.val.k,iv p.val.n,iv p.val.a]
def fC(z:Cl×Value):List Value:=[iv z.1.st,iv z.1.kind,iv z.1.weak,iv z.1.last,iv z.1.born,iv z.1.color,iv z.1.to,z.2]
def S7(w:World)(b o:Nat)(c:Cl):Prop:=
 w.cell? ⟨b,o,none⟩=some (iv c.st)/\w.cell? ⟨b,o+1,none⟩=some (iv c.kind)/\w.cell? ⟨b,o+2,none⟩=some (iv c.weak)/\w.cell? ⟨b,o+3,none⟩=some (iv c.last)/\w.cell? ⟨b,o+4,none⟩=some (iv c.born)/\w.cell? ⟨b,o+5,none⟩=some (iv c.color)/\w.cell? ⟨b,o+6,none⟩=some (iv c.to)
theorem S7.of{c:Cl}(h:S7 w b o c)(e:∀j,j<7->w'.cell? ⟨b,o+j,none⟩=w.cell? ⟨b,o+j,none⟩):S7 w' b o c:=by
 obtain⟨a0,a1,a2,a3,a4,a5,a6⟩:=h;exact⟨(e 0 (by omega)).trans a0,(e 1 (by omega)).trans a1,(e 2 (by omega)).trans a2,(e 3 (by omega)).trans a3,(e 4 (by omega)).trans a4,(e 5 (by omega)).trans a5,(e 6 (by omega)).trans a6⟩
theorem tL.of(h:tL w b o p)(e:∀j,j<6->w'.cell? ⟨b,o+j,none⟩=w.cell? ⟨b,o+j,none⟩):tL w' b o p:=by
 obtain⟨a0,a1,a2,a3,a4,a5⟩:=h;exact⟨(e 0 (by omega)).trans a0,(e 1 (by omega)).trans a1,(e 2 (by omega)).trans a2,(e 3 (by omega)).trans a3,(e 4 (by omega)).trans a4,(e 5 (by omega)).trans a5⟩
theorem tW.of{y:Wd}(h:tW w b o y)(e:∀j,j<3->w'.cell? ⟨b,o+j,none⟩=w.cell? ⟨b,o+j,none⟩):tW w' b o y:=by
 obtain⟨a0,a1,a2⟩:=h;exact⟨(e 0 (by omega)).trans a0,(e 1 (by omega)).trans a1,(e 2 (by omega)).trans a2⟩
structure Nfp(b k:Nat)(w:World):Prop where
 lt:b<w.heap.size
 nf:∀j,w.frozen? ⟨b,j,none⟩=false
 cp:∀j,j<k*6->∃v,w.cell? ⟨b,j,none⟩=some v
theorem Nfp.n1(h:Nfp b k w):Nf1 b w:=⟨h.1,h.2⟩
theorem a0f(h:Nfp b k w)(hb:w'.heap[b]?=w.heap[b]?)(hs:w.heap.size<=w'.heap.size):Nfp b k w':=
 ⟨Nat.lt_of_lt_of_le h.1 hs,λj=>(World.frozen?_of_block (a:=⟨b,j,none⟩) hb).trans (h.2 j),λj hj=>let ⟨v,hv⟩:=h.3 j hj;⟨v,(World.cell?_of_block (a:=⟨b,j,none⟩) hb).trans hv⟩⟩
theorem Nfp.ext(h:Nfp b k w)(e:Ext w w'):Nfp b k w':=a0f h (e.block b h.1) e.size
theorem Nfp.set(h:Nfp b k w)(p:Addr)(u:Value):Nfp b k (w.setCell p u):=⟨(h.n1.set p u).1,(h.n1.set p u).2,λj hj=>let ⟨_,hv⟩:=h.3 j hj;cell?_setCell_some hv⟩
theorem Nfp.put{b k g:Nat}:∀{vs:List Value} {w:World} {o:Nat},Nfp b k w->Nfp b k (w.setCells g o vs)
 | [],_,_,h=>h
 | _::r,_,_,h=>Nfp.put (vs:=r) (h.set _ _)
theorem b6f(h:Nfp b c w)(n:Nf1 b w')(hp:tL w' b (k*6) p)(ho:∀j,(j<k*6\/k*6+6<=j)->w'.cell? ⟨b,j,none⟩=w.cell? ⟨b,j,none⟩):Nfp b c w':=
 ⟨n.1,n.2,λj hj=>by
  by_cases e:j<k*6\/k*6+6<=j
  ·rw[ho j e];exact h.3 j hj
  ·obtain⟨h0,h1,h2,h3,h4,h5⟩:=hp;have:j=k*6\/j=k*6+1\/j=k*6+2\/j=k*6+3\/j=k*6+4\/j=k*6+5:=by omega
   rcases this with rfl | rfl | rfl | rfl | rfl | rfl
   ·exact⟨_,h0⟩
   ·exact⟨_,h1⟩
   ·exact⟨_,h2⟩
   ·exact⟨_,h3⟩
   ·exact⟨_,h4⟩
   ·exact⟨_,h5⟩⟩
structure Rws(B:Nat)(w:World)(x:Hp)(br bc:Nat)(pb:Nat->Nat)(pa:Nat->Option Addr)(pk:Nat->Nat):Prop where
 r:∀i (hi:i<x.regs.length),tW w br (i*3) x.regs[i]
 s:∀q,q<x.cells.length->S7 w bc (q*8) (x.c q)
 p7:∀q,q<x.cells.length->w.cell? ⟨bc,q*8+7,none⟩=some (.slice (pa q) (x.c q).prs.length (pk q))
 p:∀q,q<x.cells.length->∀k,k<(x.c q).prs.length->tL w (pb q) (k*6) ((x.c q).p k)
 pl:∀q,q<x.cells.length->0<pk q->pa q=some ⟨pb q,0,none⟩/\Nfp (pb q) (pk q) w/\(pb q≠br/\pb q≠bc)/\B<=pb q
 nr:0<x.regs.length->Nf1 br w/\B<=br
 nc:0<x.cells.length->Nf1 bc w/\B<=bc
 d:0<x.cells.length->br≠bc
 dp:∀q q',q<x.cells.length->q'<x.cells.length->q≠q'->0<pk q->0<pk q'->pb q≠pb q'
 kp:∀q,q<x.cells.length->(x.c q).prs.length<=pk q
theorem Rws.pw(h:Rws B w x br bc pb pa pk){q:Nat}(hq:q<x.cells.length)(hl:0<(x.c q).prs.length):0<pk q:=Nat.lt_of_lt_of_le hl (h.kp q hq)
theorem hY(h:Nf1 b w)(hb:w'.heap[b]?=w.heap[b]?)(hs:w.heap.size<=w'.heap.size):Nf1 b w':=
 ⟨Nat.lt_of_lt_of_le h.1 hs,λj=>(World.frozen?_of_block (a:=⟨b,j,none⟩) hb).trans (h.2 j)⟩
theorem Rws.same(h:Rws B w x br bc pb pa pk)(hs:w.heap.size<=w'.heap.size)
  (hr:0<x.regs.length->w'.heap[br]?=w.heap[br]?) (hc:0<x.cells.length->w'.heap[bc]?=w.heap[bc]?) (hp:∀q,q<x.cells.length->0<pk q->w'.heap[pb q]?=w.heap[pb q]?):Rws B w' x br bc pb pa pk where
 r:=λi hi=>(h.r i hi).of λj _=>World.cell?_of_block (a:=⟨br,_,none⟩) (hr (by omega))
 s:=λq hq=>(h.s q hq).of λj _=>World.cell?_of_block (a:=⟨bc,_,none⟩) (hc (by omega))
 p7:=λq hq=>(World.cell?_of_block (a:=⟨bc,_,none⟩) (hc (by omega))).trans (h.p7 q hq)
 p:=λq hq k hk=>(h.p q hq k hk).of λj _=>World.cell?_of_block (a:=⟨pb q,_,none⟩) (hp q hq (h.pw hq (by omega)))
 pl:=λq hq hl=>let ⟨a,b,c⟩:=h.pl q hq hl;⟨a,a0f b (hp q hq hl) hs,c⟩
 nr:=λhl=>⟨hY (h.nr hl).1 (hr hl) hs,(h.nr hl).2⟩
 nc:=λhl=>⟨hY (h.nc hl).1 (hc hl) hs,(h.nc hl).2⟩
 d:=h.d
 dp:=h.dp
 kp:=h.kp
theorem Rws.ext(h:Rws B w x br bc pb pa pk)(e:Ext w w'):Rws B w' x br bc pb pa pk:=
 h.same e.size (λhl=>e.block _ (h.nr hl).1.1) (λhl=>e.block _ (h.nc hl).1.1) (λq hq hl=>e.block _ (h.pl q hq hl).2.1.1)
theorem Rws.only(h:Rws B w x br bc pb pa pk)(e:uX S w w')(hr:0<x.regs.length->¬S br)(hc:0<x.cells.length->¬S bc)(hp:∀q,q<x.cells.length->0<pk q->¬S (pb q)):Rws B w' x br bc pb pa pk:=
 h.same e.size (λhl=>e.block _ (h.nr hl).1.1 (hr hl)) (λhl=>e.block _ (h.nc hl).1.1 (hc hl)) (λq hq hl=>e.block _ (h.pl q hq hl).2.1.1 (hp q hq hl))
theorem Rws.less{C:Nat}(h:Rws B w x br bc pb pa pk)(hc:C<=B):Rws C w x br bc pb pa pk:=
 ⟨h.r,h.s,h.p7,h.p,λq hq hl=>let ⟨a,b,c,d⟩:=h.pl q hq hl;⟨a,b,c,Nat.le_trans hc d⟩,λhl=>⟨(h.nr hl).1,Nat.le_trans hc (h.nr hl).2⟩,λhl=>⟨(h.nc hl).1,Nat.le_trans hc (h.nc hl).2⟩,h.d,h.dp,h.kp⟩
theorem Rws.slW(h:Rws B w x br bc pb pa pk)(kr:Nat)(ha:0<x.regs.length->ad=some ⟨br,0,none⟩)(hl:x.regs.length<=1048576):SlW w (.slice ad x.regs.length kr) x.regs:=
 ⟨_,_,rfl,by omega,λi hi=>⟨br,0,ha (by omega),by rw[Nat.zero_add];exact h.r i hi⟩⟩
theorem Rws.slC(h:Rws B w x br bc pb pa pk)(kc:Nat)(ha:0<x.cells.length->ad=some ⟨bc,0,none⟩)(hl:x.cells.length<=1048576)(h2:∀q,q<x.cells.length->(x.c q).prs.length<=200):SlC w (.slice ad x.cells.length kc) x.cells:=by
 refine⟨_,_,rfl,by omega,λi hi=>⟨bc,0,ha (by omega),?_⟩⟩;rw[Nat.zero_add,Hp.c_eq x i hi];obtain⟨a0,a1,a2,a3,a4,a5,a6⟩:=h.s i hi;refine⟨_,a0,a1,a2,a3,a4,a5,a6,h.p7 i hi,_,_,rfl,by have:=h2 i hi;omega,λk hk=>⟨pb i,0,(h.pl i hi (h.pw hi (by omega))).1,?_⟩⟩;rw[Nat.zero_add,Cl.p_eq _ _ hk];exact h.p i hi k hk
theorem b8s(xs:List Wd)(v:Value)(w:World)(h:SlW w v xs)(hn:xs.length<=1048576):
  Calls Tryz.prog 210 #[v] w λe w'=>∃v',e=.returned v'/\w'.ownsRow w.heap.size 152 3 v' xs.length (xs.flatMap fW)/\Ext w w':=by
 obtain⟨i0,hi0,hz0,hz1,hz2⟩:=info_parts b3t;obtain⟨ad,cap,rfl,_,hx⟩:=h;have HX:=uU hx;clear hx;cases ad with
 | none=>
  have hl:xs.length=0:=by
   rcases Nat.eq_zero_or_pos xs.length with h | h
   ·exact h
   ·obtain⟨b,o,e,_⟩:=HX 0 h;cases e
  have hx0:xs=[]:=List.eq_nil_of_length_eq_zero hl;subst hx0;clear HX hl;have hq:∀W,(binOp .eql 30 (.slice none 0 cap) (.slice none 0 0)).run Tryz.prog W=.ok (.bool true) W:=λ_=>by kernel_rfl
  simp only [List.length_nil];go_enter Tryz.func210,Tryz.ntmps210;go_wp2_with fail;go_ret;exact⟨_,rfl,World.ownsRow_nil _ _ _ _,Ext.refl _⟩
 | some ad=>
  have NW:=uU (show ∀W,Ext w W->∀j u,(xs.flatMap fW)[j]?=some u->W.cell? (ad.add j)=some u from λW e j u hu=>by
   rcases Nat.eq_zero_or_pos xs.length with h | h
   ·rw[List.eq_nil_of_length_eq_zero h] at hu;simp at hu
   ·obtain⟨b,o,e0,_⟩:=HX 0 h;cases e0;refine a6v fW 3 (by omega) (λ_=>rfl) xs b o (λi hi j hj=>?_) j u hu;obtain⟨b2,o2,e2,q⟩:=uH HX i hi;cases e2;have q:=q.ext e;obtain⟨q0,q1,q2⟩:=q
    match j,hj with
    | 0,_=>exact q0
    | 1,_=>exact q1
    | 2,_=>exact q2
   )
  have V1:=uU (show ∀u,u∈xs.flatMap fW->u.oneCell'=true from b6c fW (λa u hu=>by simp [fW] at hu;rcases hu with e | e | e <;> subst e <;> rfl) xs);have hq:∀W n k,(binOp .eql 30 (.slice (some ad) n k) (.slice none 0 0)).run Tryz.prog W=.ok (.bool false) W:=λ_ _ _=>by kernel_rfl
  go_enter Tryz.func210,Tryz.ntmps210;go_wp2_with (at_builtin;refine wpList_append_own_at _ rfl _ _ 30 rfl w.heap.size 152 i0 (.agg #[iv 0,iv 0,iv 0]) 3 24 Tryz.underlying30 hi0 hz0 hz1 hz2 rfl (by decide) _ 0 [] rfl (World.ownsRow_made w #[] 0 (Nat.le_refl _) (by unfold maxLen;omega) rfl) ad xs.length cap (xs.flatMap fW) rfl (a4j fW 3 (λ_=>rfl) xs) (NW _ ((Ext.refl w).alloc _)) V1 (by unfold maxLen;omega) (by omega) (by simp) ?_);intro v' w' hown hgrow _ _;have FIN:=uU (And.intro hown (a2k ((Ext.refl w).alloc _) (World.ownsRow_made (e:=152) (size:=3) w #[] 0 (Nat.le_refl _) (by unfold maxLen;omega) rfl) (Nat.le_refl _) hgrow));clear hown hgrow;go_wp2_with fail;go_ret;exact⟨_,rfl,FIN.1,FIN.2⟩
theorem b8t(xs:List Pr)(v:Value)(w:World)(h:SlP w v xs)(hn:xs.length<=1048576):
  Calls Tryz.prog 212 #[v] w λe w'=>∃v',e=.returned v'/\w'.ownsRow w.heap.size 154 6 v' xs.length (xs.flatMap fP)/\Ext w w':=by
 obtain⟨i0,hi0,hz0,hz1,hz2⟩:=info_parts a4i;obtain⟨ad,cap,rfl,_,hx⟩:=h;have HX:=uU hx;clear hx;cases ad with
 | none=>
  have hl:xs.length=0:=by
   rcases Nat.eq_zero_or_pos xs.length with h | h
   ·exact h
   ·obtain⟨b,o,e,_⟩:=HX 0 h;cases e
  have hx0:xs=[]:=List.eq_nil_of_length_eq_zero hl;subst hx0;clear HX hl;have hq:∀W,(binOp .eql 60 (.slice none 0 cap) (.slice none 0 0)).run Tryz.prog W=.ok (.bool true) W:=λ_=>by kernel_rfl
  simp only [List.length_nil];go_enter Tryz.func212,Tryz.ntmps212;go_wp2_with fail;go_ret;exact⟨_,rfl,World.ownsRow_nil _ _ _ _,Ext.refl _⟩
 | some ad=>
  have NW:=uU (show ∀W,Ext w W->∀j u,(xs.flatMap fP)[j]?=some u->W.cell? (ad.add j)=some u from λW e j u hu=>by
   rcases Nat.eq_zero_or_pos xs.length with h | h
   ·rw[List.eq_nil_of_length_eq_zero h] at hu;simp at hu
   ·obtain⟨b,o,e0,_⟩:=HX 0 h;cases e0;refine a6v fP 6 (by omega) (λ_=>rfl) xs b o (λi hi j hj=>?_) j u hu;obtain⟨b2,o2,e2,q⟩:=uH HX i hi;cases e2;have q:=q.ext e;obtain⟨q0,q1,q2,q3,q4,q5⟩:=q
    match j,hj with
    | 0,_=>exact q0
    | 1,_=>exact q1
    | 2,_=>exact q2
    | 3,_=>exact q3
    | 4,_=>exact q4
    | 5,_=>exact q5
   )
  have V1:=uU (show ∀u,u∈xs.flatMap fP->u.oneCell'=true from b6c fP (λa u hu=>by simp [fP] at hu;rcases hu with e | e | e | e | e | e <;> subst e <;> rfl) xs);have hq:∀W n k,(binOp .eql 60 (.slice (some ad) n k) (.slice none 0 0)).run Tryz.prog W=.ok (.bool false) W:=λ_ _ _=>by kernel_rfl
  go_enter Tryz.func212,Tryz.ntmps212;go_wp2_with (at_builtin;refine wpList_append_own_at _ rfl _ _ 60 rfl w.heap.size 154 i0 (.agg #[iv 0,iv 0,iv 0,iv 0,iv 0,iv 0]) 6 48 Tryz.underlying60 hi0 hz0 hz1 hz2 rfl (by decide) _ 0 [] rfl (World.ownsRow_made w #[] 0 (Nat.le_refl _) (by unfold maxLen;omega) rfl) ad xs.length cap (xs.flatMap fP) rfl (a4j fP 6 (λ_=>rfl) xs) (NW _ ((Ext.refl w).alloc _)) V1 (by unfold maxLen;omega) (by omega) (by simp) ?_);intro v' w' hown hgrow _ _;have FIN:=uU (And.intro hown (a2k ((Ext.refl w).alloc _) (World.ownsRow_made (e:=154) (size:=6) w #[] 0 (Nat.le_refl _) (by unfold maxLen;omega) rfl) (Nat.le_refl _) hgrow));clear hown hgrow;go_wp2_with fail;go_ret;exact⟨_,rfl,FIN.1,FIN.2⟩
def CvAt(w:World)(b o:Nat)(z:Cl×Value):Prop:=∀j,j<8->w.cell? ⟨b,o+j,none⟩=(fC z)[j]?
theorem c5d{w:World}{v:Value}{xs:List Cl}(h:SlC w v xs):∃L:List (Cl×Value),L.map (·.1)=xs/\tV (CvAt w) 8 v L/\∀z,z∈L->SlP w z.2 z.1.prs:=by
 obtain⟨ad,cap,rfl,hl,hx⟩:=h
 have hv:∀i,∃vp,∀(hi:i<xs.length),∃b o,ad=some ⟨b,o,none⟩/\CvAt w b (o+i*8) (xs[i],vp)/\SlP w vp xs[i].prs:=λi=>by
  by_cases hi:i<xs.length
  ·obtain⟨b,o,e,vp,p0,p1,p2,p3,p4,p5,p6,p7,hP⟩:=hx i hi;refine⟨vp,λ_=>⟨b,o,e,λj hj=>?_,hP⟩⟩
   match j,hj with
   | 0,_=>exact p0
   | 1,_=>exact p1
   | 2,_=>exact p2
   | 3,_=>exact p3
   | 4,_=>exact p4
   | 5,_=>exact p5
   | 6,_=>exact p6
   | 7,_=>exact p7
  ·exact⟨.slice none 0 0,λh=>absurd h hi⟩
 have hm:=λi=>Classical.choose_spec (hv i)
 refine⟨(List.range xs.length).map (λi=>(xs.getD i Cl0,Classical.choose (hv i))),?_,⟨ad,cap,by simp,by simpa using hl,λi hi=>?_⟩,λz hz=>?_⟩
 ·refine List.ext_getElem (by simp) (λi h1 h2=>?_);simp [h2]
 ·have hi':i<xs.length:=by simpa using hi
  obtain⟨b,o,e,c,_⟩:=hm i hi';refine⟨b,o,e,?_⟩;simp only [List.getElem_map,List.getElem_range];have e2:xs.getD i Cl0=xs[i]:=by simp [hi']
  rw[e2];exact c
 ·obtain⟨i,hi,rfl⟩:=List.mem_map.1 hz;have hi':i<xs.length:=by simpa using hi
  obtain⟨b,o,e,_,c⟩:=hm i hi';have e2:xs.getD i Cl0=xs[i]:=by simp [hi']
  simp only [e2];exact c
theorem slP_one{xs:List Pr}(h:SlP w v xs):v.oneCell'=true:=by obtain⟨ad,cap,rfl,_⟩:=h;rfl
theorem b8v(L:List (Cl×Value))(v:Value)(w:World)(h:tV (CvAt w) 8 v L)(h1:∀z,z∈L->z.2.oneCell'=true)(hn:L.length<=1048576):
  Calls Tryz.prog 211 #[v] w λe w'=>∃v',e=.returned v'/\w'.ownsRow w.heap.size 62 8 v' L.length (L.flatMap fC)/\Ext w w':=by
 obtain⟨i0,hi0,hz0,hz1,hz2⟩:=info_parts a6u;obtain⟨ad,cap,rfl,_,hx⟩:=h;have HX:=uU hx
 have V1:=uU (show ∀u,u∈L.flatMap fC->u.oneCell'=true from λu hu=>by
  obtain⟨a,h2,hu⟩:=List.mem_flatMap.1 hu;simp [fC] at hu;rcases hu with e | e | e | e | e | e | e | e <;> subst e <;> first | rfl | exact h1 a h2)
 clear hx h1;cases ad with
 | none=>
  have hl:L.length=0:=by
   rcases Nat.eq_zero_or_pos L.length with h | h
   ·exact h
   ·obtain⟨b,o,e,_⟩:=HX 0 h;cases e
  have hx0:L=[]:=List.eq_nil_of_length_eq_zero hl;subst hx0;clear HX hl V1;have hq:∀W,(binOp .eql 31 (.slice none 0 cap) (.slice none 0 0)).run Tryz.prog W=.ok (.bool true) W:=λ_=>by kernel_rfl
  simp only [List.length_nil];go_enter Tryz.func211,Tryz.ntmps211;go_wp2_with fail;go_ret;exact⟨_,rfl,World.ownsRow_nil _ _ _ _,Ext.refl _⟩
 | some ad=>
  have NW:=uU (show ∀W,Ext w W->∀j u,(L.flatMap fC)[j]?=some u->W.cell? (ad.add j)=some u from λW e j u hu=>by
   rcases Nat.eq_zero_or_pos L.length with h | h
   ·rw[List.eq_nil_of_length_eq_zero h] at hu;simp at hu
   ·obtain⟨b,o,e0,_⟩:=HX 0 h;cases e0;refine a6v fC 8 (by omega) (λ_=>rfl) L b o (λi hi j hj=>?_) j u hu;obtain⟨b2,o2,e2,q⟩:=uH HX i hi;cases e2;have:=q j hj;rw[<-this];cases hc:w.cell? ⟨b,o+i*8+j,none⟩ with
    | none=>rw[this] at hc;match j,hj with | 0,_ | 1,_ | 2,_ | 3,_ | 4,_ | 5,_ | 6,_ | 7,_=>simp [fC] at hc
    | some y=>exact e.keep hc)
  have hq:∀W n k,(binOp .eql 31 (.slice (some ad) n k) (.slice none 0 0)).run Tryz.prog W=.ok (.bool false) W:=λ_ _ _=>by kernel_rfl
  go_enter Tryz.func211,Tryz.ntmps211;go_wp2_with (at_builtin;refine wpList_append_own_at _ rfl _ _ 31 rfl w.heap.size 62 i0 (.agg #[iv 0,iv 0,iv 0,iv 0,iv 0,iv 0,iv 0,.slice none 0 0]) 8 80 Tryz.underlying31 hi0 hz0 hz1 hz2 rfl (by decide) _ 0 [] rfl (World.ownsRow_made w #[] 0 (Nat.le_refl _) (by unfold maxLen;omega) rfl) ad L.length cap (L.flatMap fC) rfl (a4j fC 8 (λ_=>rfl) L) (NW _ ((Ext.refl w).alloc _)) V1 (by unfold maxLen;omega) (by omega) (by simp) ?_);intro v' w' hown hgrow _ _;have FIN:=uU (And.intro hown (a2k ((Ext.refl w).alloc _) (World.ownsRow_made (e:=62) (size:=8) w #[] 0 (Nat.le_refl _) (by unfold maxLen;omega) rfl) (Nat.le_refl _) hgrow));clear hown hgrow;go_wp2_with fail;go_ret;exact⟨_,rfl,FIN.1,FIN.2⟩
def b6g:Value->Option Addr
 | .slice a _ _=>a
 | _=>none
def yC:Value->Nat
 | .slice _ _ k=>k
 | _=>0
def qQ(v:Value):Nat:=v.ownBlock.getD 0
theorem a0k(h:w.ownsRow B t c v n xs):v=.slice (b6g v) n (yC v)/\(0<n->b6g v=some ⟨qQ v,0,none⟩/\v.ownBlock=some (qQ v)):=by
 rcases h.2 with⟨rfl,rfl⟩ | ⟨g,cap,cur,rfl,_⟩
 ·exact⟨rfl,λh=>by omega⟩
 ·exact⟨rfl,λ_=>⟨rfl,rfl⟩⟩
theorem a9n(h:w.ownsRow B t c v n xs)(hn:0<n):Nf1 (qQ v) w/\B<=qQ v:=by
 obtain⟨e,h2⟩:=a0k h;obtain⟨h3,h4⟩:=h2 hn;refine⟨⟨(h.lt _ h4).2,λj=>?_⟩,(h.lt _ h4).1⟩;rw[e,h3] at h;exact World.ownsRow.frozenAt h j
theorem a7q{α:Type}{f:α->List Value}(hc:∀a,(f a).length=c){L:List α}(h:w.ownsRow B t c v L.length (L.flatMap f))(i:Nat)(hi:i<L.length)(j:Nat)(hj:j<c):w.cell? ⟨qQ v,i*c+j,none⟩=(f L[i])[j]?:=by
 obtain⟨e,h2⟩:=a0k h;obtain⟨h3,h4⟩:=h2 (by omega);obtain⟨ad,cap,e2,_,hx⟩:=b3u hc h;obtain⟨g,e3,_,_,q⟩:=hx i hi;have:qQ v=g:=by rw[e2,e3];rfl
 rw[this];have:=q j hj
 rwa [Nat.zero_add] at this
theorem b4u{t sz:Nat}(h:w.ownsRow B t sz v n xs):n<=yC v:=by
 rcases h.2 with⟨rfl,h1⟩ | ⟨g,cap,cur,rfl,_,_,hn,_⟩
 ·omega
 ·exact hn
theorem c5e{t:Nat}(h:w.ownsRow B t c v n xs)(hk:0<yC v):b6g v=some ⟨qQ v,0,none⟩/\v.ownBlock=some (qQ v)/\Nf1 (qQ v) w/\(∀j,j<yC v*c->∃u,w.cell? ⟨qQ v,j,none⟩=some u)/\B<=qQ v:=by
 rcases h.2 with⟨rfl,h1⟩ | ⟨g,cap,cur,rfl,hb,hg,hn,_,hs,_⟩
 ·simp [yC] at hk
 ·refine⟨rfl,rfl,⟨(Array.getElem?_eq_some_iff.1 hg).1,λj=>World.ownsRow.frozenAt h j⟩,λj hj=>?_,hb⟩;have hj':j<cur.size:=by rw[hs];exact hj
  exact⟨cur[j],by rw[show qQ (.slice (some ⟨g,0,none⟩) n cap)=g from rfl,cell_of_row w g j cur _ _ hg];exact Array.getElem?_eq_getElem hj'⟩
theorem b4v(h:w.ownsRow B 154 6 v n xs)(hk:0<yC v):b6g v=some ⟨qQ v,0,none⟩/\v.ownBlock=some (qQ v)/\Nfp (qQ v) (yC v) w/\B<=qQ v:=by
 rcases h.2 with⟨rfl,h1⟩ | ⟨g,cap,cur,rfl,hb,hg,hn,_,hs,_⟩
 ·simp [yC] at hk
 ·refine⟨rfl,rfl,⟨(Array.getElem?_eq_some_iff.1 hg).1,λj=>?_,λj hj=>?_⟩,hb⟩
  ·exact World.ownsRow.frozenAt h j
  ·have hj':j<cur.size:=by rw[hs];exact hj
   exact⟨cur[j],by rw[show qQ (.slice (some ⟨g,0,none⟩) n cap)=g from rfl,cell_of_row w g j cur _ _ hg];exact Array.getElem?_eq_getElem hj'⟩
theorem Rws.of{pv:Nat->Value}(hr:w.ownsRow B 152 3 vr x.regs.length (x.regs.flatMap fW))(hs:∀q,q<x.cells.length->S7 w bc (q*8) (x.c q))(h7:∀q,q<x.cells.length->w.cell? ⟨bc,q*8+7,none⟩=some (pv q))(hc:0<x.cells.length->Nf1 bc w/\B<=bc)(hd:0<x.cells.length->qQ vr≠bc)
  (hp:∀q,q<x.cells.length->w.ownsRow B 154 6 (pv q) (x.c q).prs.length ((x.c q).prs.flatMap fP)/\∀b,(pv q).ownBlock=some b->b≠qQ vr/\b≠bc) (hdp:∀q q',q<x.cells.length->q'<x.cells.length->q≠q'->∀b,(pv q).ownBlock=some b->(pv q').ownBlock≠some b) :
  Rws B w x (qQ vr) bc (λq=>qQ (pv q)) (λq=>b6g (pv q)) (λq=>yC (pv q)) where
 r:=λi hi=>⟨a7q (f:=fW) (λ_=>rfl) hr i hi 0 (by omega),a7q (f:=fW) (λ_=>rfl) hr i hi 1 (by omega),a7q (f:=fW) (λ_=>rfl) hr i hi 2 (by omega)⟩
 s:=hs
 p7:=λq hq=>by rw[h7 q hq,<-(a0k (hp q hq).1).1]
 p:=λq hq k hk=>by
  have:=a7q (f:=fP) (λ_=>rfl) (hp q hq).1 k hk;rw[Cl.p_eq _ _ hk] at this;exact⟨this 0 (by omega),this 1 (by omega),this 2 (by omega),this 3 (by omega),this 4 (by omega),this 5 (by omega)⟩
 pl:=λq hq hl=>by
  obtain⟨h1,h2,h3,h4⟩:=b4v (hp q hq).1 hl;exact⟨h1,h3,(hp q hq).2 _ h2,h4⟩
 nr:=λhl=>a9n hr hl
 nc:=hc
 d:=hd
 dp:=λq q' hq hq' hne hl hl' e=>by
  have h1:=(b4v (hp q hq).1 hl).2.1;have h2:=(b4v (hp q' hq').1 hl').2.1;exact hdp q q' hq hq' hne _ h1 (by rw[h2,e])
 kp:=λq hq=>b4u (hp q hq).1
structure uN where
 z:Nat->Option Obj
def Prt[Inhabited uN](w:World)(role:Nat->Nat):Prop:=∀q o,(default:uN).z q=some o->role q=1/\w.heap[q]?=some o
theorem Prt.of[Inhabited uN]{role role':Nat->Nat}(h:Prt w role)(e:∀q,q<w.heap.size->role q=1->w'.heap[q]?=w.heap[q]?)(r:∀q,q<w.heap.size->role q=1->role' q=1):Prt w' role':=λq o hq=>by
 obtain⟨h1,h2⟩:=h q o hq
 have hl:q<w.heap.size:=by
  rcases Nat.lt_or_ge q w.heap.size with l | l
  ·exact l
  ·rw[Array.getElem?_eq_none l] at h2;cases h2
 exact⟨r q hl h1,(e q hl h1).trans h2⟩
def dW(w:World)(B:Nat)(x:Hp)(vr vc vg:Value):Prop:=
 w.cell? ⟨B,0,none⟩=some (iv x.room)/\w.cell? ⟨B,1,none⟩=some (iv x.used)/\w.cell? ⟨B,2,none⟩=some (iv x.born)/\w.cell? ⟨B,3,none⟩=some vr/\w.cell? ⟨B,4,none⟩=some vc/\w.cell? ⟨B,5,none⟩=some (iv x.phase)/\w.cell? ⟨B,6,none⟩=some (iv x.hand)/\w.cell? ⟨B,7,none⟩=some (iv x.sub)/\w.cell? ⟨B,8,none⟩=some vg/\w.cell? ⟨B,9,none⟩=some (iv x.per)/\w.cell? ⟨B,10,none⟩=some (iv x.start)/\w.cell? ⟨B,11,none⟩=some (iv x.rounds)/\w.cell? ⟨B,12,none⟩=some (iv x.forced)
theorem dW.ext(h:dW w B x vr vc vg)(e:Ext w w'):dW w' B x vr vc vg:=by
 obtain⟨h0,h1,h2,h3,h4,h5,h6,h7,h8,h9,h10,h11,h12⟩:=h;exact⟨e.keep h0,e.keep h1,e.keep h2,e.keep h3,e.keep h4,e.keep h5,e.keep h6,e.keep h7,e.keep h8,e.keep h9,e.keep h10,e.keep h11,e.keep h12⟩
theorem dW.new(w:World)(x:Hp)(vr vc vg:Value)(t:TypeId):dW (w.alloc (.cells #[iv x.room,iv x.used,iv x.born,vr,vc,iv x.phase,iv x.hand,iv x.sub,vg,iv x.per,iv x.start,iv x.rounds,iv x.forced] t)) w.heap.size x vr vc vg:=by
 refine⟨?_,?_,?_,?_,?_,?_,?_,?_,?_,?_,?_,?_,?_⟩ <;> simp [go_sem]
theorem dW.of{B':Nat}(h:dW w B x vr vc vg)(e:∀o,o<13->w'.cell? ⟨B',o,none⟩=w.cell? ⟨B,o,none⟩):dW w' B' x vr vc vg:=by
 obtain⟨h0,h1,h2,h3,h4,h5,h6,h7,h8,h9,h10,h11,h12⟩:=h;exact⟨(e 0 (by omega)).trans h0,(e 1 (by omega)).trans h1,(e 2 (by omega)).trans h2,(e 3 (by omega)).trans h3,(e 4 (by omega)).trans h4,(e 5 (by omega)).trans h5,(e 6 (by omega)).trans h6,(e 7 (by omega)).trans h7,(e 8 (by omega)).trans h8,(e 9 (by omega)).trans h9,(e 10 (by omega)).trans h10,(e 11 (by omega)).trans h11,(e 12 (by omega)).trans h12⟩
theorem dW.only(h:dW w B x vr vc vg)(e:uX S w w')(hs:¬S B):dW w' B x vr vc vg:=
 h.of λo _=>e.cells B (uL h.1) hs o
theorem dW.block(h:dW w B x vr vc vg)(e:w'.heap[B]?=w.heap[B]?):dW w' B x vr vc vg:=
 h.of λo _=>World.cell?_of_block (a:=⟨B,o,none⟩) e
theorem dW.far(h:dW w B x vr vc vg)(b o:Nat)(u:Value)(hb:b≠B\/13<=o):dW (w.setCell ⟨b,o,none⟩ u) B x vr vc vg:=
 h.of λo' ho=>uC _ (by omega)
theorem dW.set3(h:dW w B x vr vc vg)(u:Value):dW (w.setCell ⟨B,3,none⟩ u) B x u vc vg:=by
 obtain⟨h0,h1,h2,h3,h4,h5,h6,h7,h8,h9,h10,h11,h12⟩:=h;exact⟨(uC _ (by omega)).trans h0,(uC _ (by omega)).trans h1,(uC _ (by omega)).trans h2,World.cell?_setCell_same _ _ _ h3,(uC _ (by omega)).trans h4,(uC _ (by omega)).trans h5,(uC _ (by omega)).trans h6,(uC _ (by omega)).trans h7,(uC _ (by omega)).trans h8,(uC _ (by omega)).trans h9,(uC _ (by omega)).trans h10,(uC _ (by omega)).trans h11,(uC _ (by omega)).trans h12⟩
theorem dW.set4(h:dW w B x vr vc vg)(u:Value):dW (w.setCell ⟨B,4,none⟩ u) B x vr u vg:=by
 obtain⟨h0,h1,h2,h3,h4,h5,h6,h7,h8,h9,h10,h11,h12⟩:=h;exact⟨(uC _ (by omega)).trans h0,(uC _ (by omega)).trans h1,(uC _ (by omega)).trans h2,(uC _ (by omega)).trans h3,World.cell?_setCell_same _ _ _ h4,(uC _ (by omega)).trans h5,(uC _ (by omega)).trans h6,(uC _ (by omega)).trans h7,(uC _ (by omega)).trans h8,(uC _ (by omega)).trans h9,(uC _ (by omega)).trans h10,(uC _ (by omega)).trans h11,(uC _ (by omega)).trans h12⟩
theorem dW.set8(h:dW w B x vr vc vg)(u:Value):dW (w.setCell ⟨B,8,none⟩ u) B x vr vc u:=by
 obtain⟨h0,h1,h2,h3,h4,h5,h6,h7,h8,h9,h10,h11,h12⟩:=h;exact⟨(uC _ (by omega)).trans h0,(uC _ (by omega)).trans h1,(uC _ (by omega)).trans h2,(uC _ (by omega)).trans h3,(uC _ (by omega)).trans h4,(uC _ (by omega)).trans h5,(uC _ (by omega)).trans h6,(uC _ (by omega)).trans h7,World.cell?_setCell_same _ _ _ h8,(uC _ (by omega)).trans h9,(uC _ (by omega)).trans h10,(uC _ (by omega)).trans h11,(uC _ (by omega)).trans h12⟩
theorem dW.set1(h:dW w B x vr vc vg)(u:Int):dW (w.setCell ⟨B,1,none⟩ (iv u)) B { x with used:=u } vr vc vg:=by
 obtain⟨h0,h1,h2,h3,h4,h5,h6,h7,h8,h9,h10,h11,h12⟩:=h;exact⟨(uC _ (by omega)).trans h0,World.cell?_setCell_same _ _ _ h1,(uC _ (by omega)).trans h2,(uC _ (by omega)).trans h3,(uC _ (by omega)).trans h4,(uC _ (by omega)).trans h5,(uC _ (by omega)).trans h6,(uC _ (by omega)).trans h7,(uC _ (by omega)).trans h8,(uC _ (by omega)).trans h9,(uC _ (by omega)).trans h10,(uC _ (by omega)).trans h11,(uC _ (by omega)).trans h12⟩
theorem dW.set2(h:dW w B x vr vc vg)(u:Int):dW (w.setCell ⟨B,2,none⟩ (iv u)) B { x with born:=u } vr vc vg:=by
 obtain⟨h0,h1,h2,h3,h4,h5,h6,h7,h8,h9,h10,h11,h12⟩:=h;exact⟨(uC _ (by omega)).trans h0,(uC _ (by omega)).trans h1,World.cell?_setCell_same _ _ _ h2,(uC _ (by omega)).trans h3,(uC _ (by omega)).trans h4,(uC _ (by omega)).trans h5,(uC _ (by omega)).trans h6,(uC _ (by omega)).trans h7,(uC _ (by omega)).trans h8,(uC _ (by omega)).trans h9,(uC _ (by omega)).trans h10,(uC _ (by omega)).trans h11,(uC _ (by omega)).trans h12⟩
theorem dW.set5(h:dW w B x vr vc vg)(u:Int):dW (w.setCell ⟨B,5,none⟩ (iv u)) B { x with phase:=u } vr vc vg:=by
 obtain⟨h0,h1,h2,h3,h4,h5,h6,h7,h8,h9,h10,h11,h12⟩:=h;exact⟨(uC _ (by omega)).trans h0,(uC _ (by omega)).trans h1,(uC _ (by omega)).trans h2,(uC _ (by omega)).trans h3,(uC _ (by omega)).trans h4,World.cell?_setCell_same _ _ _ h5,(uC _ (by omega)).trans h6,(uC _ (by omega)).trans h7,(uC _ (by omega)).trans h8,(uC _ (by omega)).trans h9,(uC _ (by omega)).trans h10,(uC _ (by omega)).trans h11,(uC _ (by omega)).trans h12⟩
theorem dW.set6(h:dW w B x vr vc vg)(u:Int):dW (w.setCell ⟨B,6,none⟩ (iv u)) B { x with hand:=u } vr vc vg:=by
 obtain⟨h0,h1,h2,h3,h4,h5,h6,h7,h8,h9,h10,h11,h12⟩:=h;exact⟨(uC _ (by omega)).trans h0,(uC _ (by omega)).trans h1,(uC _ (by omega)).trans h2,(uC _ (by omega)).trans h3,(uC _ (by omega)).trans h4,(uC _ (by omega)).trans h5,World.cell?_setCell_same _ _ _ h6,(uC _ (by omega)).trans h7,(uC _ (by omega)).trans h8,(uC _ (by omega)).trans h9,(uC _ (by omega)).trans h10,(uC _ (by omega)).trans h11,(uC _ (by omega)).trans h12⟩
theorem dW.set7(h:dW w B x vr vc vg)(u:Int):dW (w.setCell ⟨B,7,none⟩ (iv u)) B { x with sub:=u } vr vc vg:=by
 obtain⟨h0,h1,h2,h3,h4,h5,h6,h7,h8,h9,h10,h11,h12⟩:=h;exact⟨(uC _ (by omega)).trans h0,(uC _ (by omega)).trans h1,(uC _ (by omega)).trans h2,(uC _ (by omega)).trans h3,(uC _ (by omega)).trans h4,(uC _ (by omega)).trans h5,(uC _ (by omega)).trans h6,World.cell?_setCell_same _ _ _ h7,(uC _ (by omega)).trans h8,(uC _ (by omega)).trans h9,(uC _ (by omega)).trans h10,(uC _ (by omega)).trans h11,(uC _ (by omega)).trans h12⟩
theorem dW.set11(h:dW w B x vr vc vg)(u:Int):dW (w.setCell ⟨B,11,none⟩ (iv u)) B { x with rounds:=u } vr vc vg:=by
 obtain⟨h0,h1,h2,h3,h4,h5,h6,h7,h8,h9,h10,h11,h12⟩:=h;exact⟨(uC _ (by omega)).trans h0,(uC _ (by omega)).trans h1,(uC _ (by omega)).trans h2,(uC _ (by omega)).trans h3,(uC _ (by omega)).trans h4,(uC _ (by omega)).trans h5,(uC _ (by omega)).trans h6,(uC _ (by omega)).trans h7,(uC _ (by omega)).trans h8,(uC _ (by omega)).trans h9,(uC _ (by omega)).trans h10,World.cell?_setCell_same _ _ _ h11,(uC _ (by omega)).trans h12⟩
theorem dW.set12(h:dW w B x vr vc vg)(u:Int):dW (w.setCell ⟨B,12,none⟩ (iv u)) B { x with forced:=u } vr vc vg:=by
 obtain⟨h0,h1,h2,h3,h4,h5,h6,h7,h8,h9,h10,h11,h12⟩:=h;exact⟨(uC _ (by omega)).trans h0,(uC _ (by omega)).trans h1,(uC _ (by omega)).trans h2,(uC _ (by omega)).trans h3,(uC _ (by omega)).trans h4,(uC _ (by omega)).trans h5,(uC _ (by omega)).trans h6,(uC _ (by omega)).trans h7,(uC _ (by omega)).trans h8,(uC _ (by omega)).trans h9,(uC _ (by omega)).trans h10,(uC _ (by omega)).trans h11,World.cell?_setCell_same _ _ _ h12⟩
def Grw(w:World)(B:Nat)(v:Value)(G:List Int):Prop:=
 (v=.slice none 0 0/\G=[])\/∃gb go cap cur,v=.slice (some ⟨gb,go,none⟩) G.length cap/\B<=gb/\w.heap[gb]?=some (.cells cur 3 (0,0))/\G.length<=cap/\go+cap<=cur.size/\(cur.toList.drop go).take G.length=G.map iv
theorem Grw.lt(h:Grw w B v G):∀k,v.ownBlock=some k->B<=k/\k<w.heap.size:=by
 intro k hk;rcases h with⟨rfl,_⟩ | ⟨gb,go,cap,cur,rfl,hb,hg,_⟩
 ·simp [Value.ownBlock] at hk
 ·simp [Value.ownBlock] at hk;subst hk;exact⟨hb,(Array.getElem?_eq_some_iff.1 hg).1⟩
theorem Grw.block(h:Grw w B v G)(hb:∀k,v.ownBlock=some k->w'.heap[k]?=w.heap[k]?):Grw w' B v G:=by
 rcases h with h | ⟨gb,go,cap,cur,rfl,h1,hg,h2⟩
 ·exact .inl h
 ·exact .inr ⟨gb,go,cap,cur,rfl,h1,by rw[hb gb rfl];exact hg,h2⟩
theorem Grw.form(h:Grw w B v G):∃a k,v=.slice a G.length k:=by
 rcases h with⟨rfl,rfl⟩ | ⟨gb,go,cap,cur,rfl,_⟩
 ·exact⟨none,0,rfl⟩
 ·exact⟨_,_,rfl⟩
theorem Grw.of(h:w.ownsRow B 3 1 v G.length (G.map iv)):Grw w B v G:=by
 rcases h.2 with⟨h0,h1⟩ | ⟨g,cap,cur,h0,hb,hg,hn,_,hs,ht⟩
 ·exact .inl ⟨h0,List.eq_nil_of_length_eq_zero h1⟩
 ·exact .inr ⟨g,0,cap,cur,h0,hb,hg,hn,by omega,by simpa using ht⟩
theorem Grw.at{a:Option Addr}(h:Grw w B (.slice a G.length k) G)(i:Nat)(hi:i<G.length):∃gb go,a=some ⟨gb,go,none⟩/\w.cell? ⟨gb,go+i,none⟩=some (iv G[i])/\B<=gb:=by
 rcases h with⟨_,rfl⟩ | ⟨gb,go,cap,cur,e,hb,hg,hn,hs,ht⟩
 ·simp at hi
 ·simp only [Value.slice.injEq] at e;refine⟨gb,go,e.1,?_,hb⟩;rw[cell_of_row w gb (go+i) cur _ _ hg,<-Array.getElem?_toList];have h1:((cur.toList.drop go).take G.length)[i]?=(G.map iv)[i]?:=by rw[ht]
  rw[List.getElem?_take_of_lt hi,List.getElem?_drop] at h1;rw[h1];simp [hi]
theorem Grw.tail{gb go:Nat}{g:Int}(h:Grw w B (.slice (some ⟨gb,go,none⟩) (G.length+1) cap) (g::G)):Grw w B (.slice (some ⟨gb,go+1,none⟩) G.length (cap-1)) G:=by
 rcases h with⟨_,e⟩ | ⟨gb',go',cap',cur,e,hb,hg,hn,hs,ht⟩
 ·cases e
 ·simp only [Value.slice.injEq,Option.some.injEq,Addr.mk.injEq] at e;obtain⟨⟨rfl,rfl,_⟩,_,rfl⟩:=e;refine .inr ⟨gb,go+1,cap-1,cur,rfl,hb,hg,by simp at hn;omega,by simp at hn;omega,?_⟩
  have h1:((cur.toList.drop go).take (G.length+1)).drop 1=G.map iv:=by
   have:(g::G).length=G.length+1:=rfl;rw[this] at ht;rw[ht];rfl
  rw[List.drop_take,List.drop_drop] at h1
  simpa using h1
theorem c5f{α:Type}(L:List α)(o n:Nat)(v:α)(xs:List α)(h:(L.drop o).take n=xs)(hl:xs.length=n)(ho:o+n<L.length):((L.take (o+n)++[v]++L.drop (o+n+1)).drop o).take (n+1)=xs++[v]:=by
 have e1:(L.take (o+n)).length=o+n:=by simp;omega
 have e2:(L.take (o+n)).drop o=xs:=by rw[List.drop_take,show o+n-o=n by omega];exact h
 rw[List.append_assoc,List.drop_append_of_le_length (by omega),e2];simp [List.take_append,hl];exact List.take_of_length_le (by omega)
theorem c5g{P:Program}(w:World)(t ty:TypeId)(i:TypeInfo)(z:Value)(B:Nat)(v:Value)(G:List Int)(ht:P.underlying t=some (.slice 3))(hi:P.info? 3=some i)(hz:i.zero=some z)(hs1:i.size=1)(hby:i.bytes=8)(hzs:z.cells.size=1)(h:Grw w B v G)(ad:Addr)(c:Nat)(x:Int)(hx:w.cell? ad=some (iv x))(hn:G.length<=1048576)(hB:B<=w.heap.size):
  ∃gb go cap w',(Builtin.append_ #[t,t] ty #[v,.slice (some ad) 1 c]).run P w=.ok (.slice (some ⟨gb,go,none⟩) (G.length+1) cap) w'/\Grw w' B (.slice (some ⟨gb,go,none⟩) (G.length+1) cap) (G++[x])/\w.grownBy w' v.ownBlock/\(v.ownBlock=some gb\/gb=w.heap.size)/\gb<w'.heap.size:=by
 have hnews:∀j u,[iv x][j]?=some u->w.cell? (ad.add j)=some u:=λj u hj=>by
  match j,hj with
  | 0,hj=>
   simp at hj;subst hj;have:ad.add 0=ad:=by unfold Addr.add;simp
   rw[this];exact hx
 have grown:∀(old:Nat),old<G.length+1->Grw (w.drew.alloc (.cells ((G.map iv).toArray ++ #[iv x]++Builtin.zeroCells z.cells (grownCap w (G.length+1) old 3-(G.length+1))) 3)) B (.slice (some ⟨w.heap.size,0,none⟩) (G.length+1) (grownCap w (G.length+1) old 3)) (G++[x])/\∀row,w.grownBy (w.drew.alloc (.cells ((G.map iv).toArray ++ #[iv x]++Builtin.zeroCells z.cells (grownCap w (G.length+1) old 3-(G.length+1))) 3)) row:=by
  intro old ho;have hge:=grownCap_ge w (G.length+1) old 3;refine⟨.inr ⟨w.heap.size,0,grownCap w (G.length+1) old 3,_,by simp,hB,heap_alloc_new w.drew _,by simpa using hge,?_,?_⟩,λrow=>⟨rfl,rfl,rfl,by simp,λk hk _=>Below.heap_alloc w.drew _ k hk⟩⟩
  ·simp [size_zeroCells,hzs];omega
  ·simp;have e:G.length+1=(G.map iv++[iv x]).length:=by simp
   rw[List.append_cons,e,List.take_left]
 rcases h with⟨rfl,rfl⟩ | ⟨gb,go,cap,cur,rfl,hb,hg,hnc,hcs,htake⟩
 ·have hr:=run_append_nil (P:=P) w t ty 3 i z ht hi hz ad 1 c [iv x] (by simp [hs1]) hnews (by omega) (by omega) (by rw[hby];omega);have hgr:=grown 0 (by omega);simp only [List.length_nil,Nat.zero_add,List.map_nil] at hgr;refine⟨_,_,_,_,hr,?_,hgr.2 _,.inr rfl,by simp⟩
  simpa using hgr.1
 ·by_cases hroom:G.length+1<=cap
  ·have hf:=run_firstCells_some (P:=P) w i.size 1 ad 1 c [iv x] (by simp [hs1]) hnews;rw[hs1] at hf;have hst:=run_storeCells_at P gb (go+G.length) 3 [iv x] 0 cur w hg (by simp;omega) (by intro v hv;simp at hv;subst hv;rfl);simp only [Nat.add_zero,List.length_cons,List.length_nil,Nat.zero_add] at hst;refine⟨gb,go,cap,w.setRow gb (cur.toList.take (go+G.length)++[iv x]++cur.toList.drop (go+G.length+1)).toArray,?_,.inr ⟨gb,go,cap,_,by simp,hb,setRow_heap w gb cur _ 3 _ hg,by simpa using hroom,?_,?_⟩,⟨rfl,rfl,rfl,by simp,λk _ hk=>setRow_other w gb k _ (λe=>hk (by simp [Value.ownBlock,e]))⟩,.inl rfl,?_⟩
   ·simp only [List.append_assoc,List.singleton_append] at hst ⊢;simp [Builtin.append_,run_underlying ht,sizeOf,typeInfo,hi,Builtin.lenOf,hroom,hf,Addr.add_lit,hst,hs1]
   ·simp;omega
   ·have:=c5f cur.toList go G.length (iv x) (G.map iv) htake (by simp) (by simp;omega)
    simpa using this
   ·have:=(Array.getElem?_eq_some_iff.1 hg).1
    simpa using this
  ·have hr:=run_append_grow (P:=P) w t ty 3 i z ht hi hz ⟨gb,go,none⟩ G.length cap (G.map iv) (by simp [hs1]) (λj u hj=>by
     have hj':j<G.length:=by have:=(List.getElem?_eq_some_iff.1 hj).1;simpa using this
     have:(⟨gb,go,none⟩:Addr).add j=⟨gb,go+j,none⟩:=by unfold Addr.add;split <;> simp_all
     rw[this,cell_of_row w gb (go+j) cur _ _ hg,<-Array.getElem?_toList];have h1:((cur.toList.drop go).take G.length)[j]?=(G.map iv)[j]?:=by rw[htake]
     rw[List.getElem?_take_of_lt hj',List.getElem?_drop] at h1;rw[h1];exact hj) ad 1 c [iv x] (by simp [hs1]) hnews (by omega) (by omega) (growslice_fits (by omega) (by rw[hby];omega))
   have hgr:=grown cap (by omega);exact⟨_,_,_,_,hr,hgr.1,hgr.2 _,.inr rfl,by simp⟩
theorem c1u{P:Program}(w:World){ops:Array Oper}{o:Oper}{a:Act}{K:Act->World->Prop}{Q:Exit->Act->World->Prop}{E:Prop}(hgd:o.guard=none)(s x:Operand)(t:TypeId)
  (ho:o.op=.call { callee:=.builtin .append,args:=#[s,x],argTypes:=#[t,t] }) (i:TypeInfo) (z:Value) (B:Nat) (v:Value) (G:List Int) (ht:P.underlying t=some (.slice 3)) (hi:P.info? 3=some i) (hz:i.zero=some z) (hs1:i.size=1) (hby:i.bytes=8) (hzs:z.cells.size=1) (hs:a.eval s=v) (h:Grw w B v G) (ad:Addr) (c:Nat) (y:Int) (hx:a.eval x=.slice (some ad) 1 c) (hy:w.cell? ad=some (iv y)) (hn:G.length<=1048576) (hB:B<=w.heap.size)
  (hK:∀gb go cap w',Grw w' B (.slice (some ⟨gb,go,none⟩) (G.length+1) cap) (G++[y])->w.grownBy w' v.ownBlock->(v.ownBlock=some gb\/gb=w.heap.size)->gb<w'.heap.size->K (a.put o.dst (.slice (some ⟨gb,go,none⟩) (G.length+1) cap)) w') :
  if Region.wanted o (yielded ops a.tmps)=true then Oper.wp P o a w K Q else E:=by
 have hw:Region.wanted o (yielded ops a.tmps)=true:=by simp [Region.wanted,hgd]
 rw[if_pos hw];obtain⟨gb,go,cap,w',hr,h2,h3,h4,h5⟩:=c5g (P:=P) w t o.type i z B v G ht hi hz hs1 hby hzs h ad c y hy hn hB;unfold Oper.wp execOp;simp only [ho,resolve,invoke,builtin,Sem.run_bind,Sem.run_pure,Result.andThen_ok,List.map_toArray,List.map_cons,List.map_nil,hs,hx,hr];exact hK gb go cap w' h2 h3 h4 h5
end Go.Proofs.YtddkhnclmeikfaaGreat
