import Derived.Test.YtddkhnclmeikfaaGreatLr
import Derived.Deep.AppendLies
import Derived.Deep.DeepCutAuto
import Derived.Deep.LoopGhost
import Derived.Deep.RegionWith
import Derived.Laws.OwnMore
import Derived.WalkSmall
namespace Go.Proofs.YtddkhnclmeikfaaGreat
open Go.RowKit
attribute [local go_sem ↓] Go.wp_at_zero Go.wp_at_succ
def it(L:List Int)(i:Nat):Int:=L.getD i 0
theorem it_eq(L:List Int)(i:Nat)(h:i<L.length):L[i]=it L i:=by simp [it,h]
def swp(L:List Int)(i j:Nat):List Int:=(L.set i (it L j)).set j (it L i)
theorem swp_len(L:List Int)(i j:Nat):(swp L i j).length=L.length:=by simp [swp]
theorem swp_it(L:List Int)(i j k:Nat)(hi:i<L.length)(hj:j<L.length):it (swp L i j) k=if k=j then it L i else if k=i then it L j else it L k:=by
 simp only [it,swp,List.getD_eq_getElem?_getD,List.getElem?_set];by_cases h1:j=k
 ·subst h1;simp [hj]
 ·have h1':¬k=j:=fun e=>h1 e.symm
  by_cases h2:i=k
  ·subst h2;simp [h1,h1',hi]
  ·have h2':¬k=i:=fun e=>h2 e.symm
   simp [h1,h2,h1',h2']
theorem swp_perm(L:List Int)(i j:Nat)(hi:i<L.length)(hj:j<L.length):(swp L i j).Perm L:=by
 have:=List.set_set_perm hi hj;rw[it_eq L i hi,it_eq L j hj] at this;exact this
def Ho(L:List Int):Prop:=∀i,0<i→i<L.length→it L ((i-1) / 2)≤it L i
theorem Ho.root{L:List Int}(h:Ho L):∀i,i<L.length→it L 0≤it L i:=by
 intro i
 induction i using Nat.strongRecOn with
 | ind i ih=>
  intro hi;by_cases h0:i=0
  ·subst h0;exact Int.le_refl _
  ·have h1:=h i (by omega) hi;have h2:=ih ((i-1) / 2) (by omega) (by omega);omega
theorem it_mem(L:List Int)(i:Nat)(h:i<L.length):it L i∈L:=by rw[←it_eq L i h];exact List.getElem_mem h
theorem Ho.least{L:List Int}(h:Ho L){x:Int}(hx:x∈L):it L 0≤x:=by
 obtain⟨i,hi,e⟩:=List.getElem_of_mem hx;rw[←e,it_eq L i hi];exact h.root i hi
theorem Ho.nil:Ho []:=fun i _ h=>by simp at h
def Rise(L:List Int)(a:Nat):Prop:=
 (∀i,0<i→i<L.length→i≠a→it L ((i-1) / 2)≤it L i)∧(∀i,0<i→i<L.length→(i-1) / 2=a→0<a→it L ((a-1) / 2)≤it L i)
theorem it_append(L:List Int)(x:Int)(i:Nat):it (L++[x]) i=if i<L.length then it L i else if i=L.length then x else 0:=by
 simp only [it,List.getD_eq_getElem?_getD];by_cases h:i<L.length
 ·simp [h,List.getElem?_append_left]
 ·by_cases h2:i=L.length
  ·subst h2;simp
  ·rw[List.getElem?_eq_none (by simp;omega)];simp [h,h2]
theorem Rise.start{L:List Int}(h:Ho L)(x:Int):Rise (L++[x]) L.length:=by
 refine⟨fun i h0 hi hne=>?_,fun i h0 hi he=>?_⟩
 ·simp at hi;rw[it_append,it_append,if_pos (by omega),if_pos (by omega)];exact h i h0 (by omega)
 ·simp at hi;omega
theorem Rise.top{L:List Int}(h:Rise L 0):Ho L:=fun i h0 hi=>h.1 i h0 hi (by omega)
theorem Rise.done{L:List Int}{a:Nat}(h:Rise L a)(hc:it L ((a-1) / 2)≤it L a):Ho L:=fun i h0 hi=>by
 by_cases e:i=a
 ·subst e;exact hc
 ·exact h.1 i h0 hi e
theorem Rise.up{L:List Int}{a u:Nat}(h:Rise L a)(ha:0<a)(hl:a<L.length)(hu:u=(a-1) / 2)(hc:it L a<it L u):Rise (swp L u a) u:=by
 have hul:u<L.length:=by omega
 refine⟨fun i h0 hi hne=>?_,fun i h0 hi he hp=>?_⟩
 ·rw[swp_len] at hi;rw[swp_it L u a _ hul hl,swp_it L u a _ hul hl];by_cases e1:i=a
  ·subst e1;rw[if_pos rfl,if_neg (by omega),if_pos hu.symm];omega
  ·rw[if_neg e1,if_neg hne];by_cases e2:(i-1) / 2=a
   ·rw[if_pos e2];have:=h.2 i h0 hi e2 ha;rw[hu];exact this
   ·rw[if_neg e2];by_cases e3:(i-1) / 2=u
    ·rw[if_pos e3];have:=h.1 i h0 hi e1;rw[e3] at this;omega
    ·rw[if_neg e3];exact h.1 i h0 hi e1
 ·rw[swp_len] at hi;rw[swp_it L u a _ hul hl,swp_it L u a _ hul hl];rw[if_neg (by omega),if_neg (by omega)];have hup:=h.1 u hp hul (by omega);by_cases e1:i=a
  ·rw[if_pos e1];exact hup
  ·rw[if_neg e1,if_neg (by omega)];have:=h.1 i h0 hi e1;rw[he] at this;omega
def Fall(L:List Int)(a:Nat):Prop:=
 (∀i,0<i→i<L.length→(i-1) / 2≠a→it L ((i-1) / 2)≤it L i)∧(∀i,0<i→i<L.length→(i-1) / 2=a→0<a→it L ((a-1) / 2)≤it L i)
theorem Fall.bottom{L:List Int}{a:Nat}(h:Fall L a)(hb:L.length≤2*a+1):Ho L:=fun i h0 hi=>h.1 i h0 hi (by omega)
def Lesser(L:List Int)(a s:Nat):Prop:=(s=2*a+1∨s=2*a+2)∧s<L.length∧(∀i,0<i→i<L.length→(i-1) / 2=a→it L s≤it L i)
theorem Lesser.right{L:List Int}{a:Nat}(h:2*a+2<L.length)(hc:it L (2*a+2)<it L (2*a+1)):Lesser L a (2*a+2):=
 ⟨.inr rfl,h,fun i h0 hi e=>by
  by_cases q:i=2*a+2
  ·rw[q];exact Int.le_refl _
  ·have:i=2*a+1:=by omega
   rw[this];omega⟩
theorem Lesser.left{L:List Int}{a:Nat}(h:2*a+1<L.length)(hc:2*a+2<L.length→it L (2*a+1)≤it L (2*a+2)):Lesser L a (2*a+1):=
 ⟨.inl rfl,h,fun i h0 hi e=>by
  by_cases q:i=2*a+1
  ·rw[q];exact Int.le_refl _
  ·have:i=2*a+2:=by omega
   rw[this];exact hc (by omega)⟩
theorem Fall.done{L:List Int}{a s:Nat}(h:Fall L a)(hs:Lesser L a s)(hc:it L a≤it L s):Ho L:=fun i h0 hi=>by
 by_cases e:(i-1) / 2=a
 ·have:=hs.2.2 i h0 hi e;rw[e];omega
 ·exact h.1 i h0 hi e
theorem Fall.down{L:List Int}{a s:Nat}(h:Fall L a)(hs:Lesser L a s)(hc:it L s<it L a):Fall (swp L a s) s:=by
 obtain⟨hs1,hsl,hs2⟩:=hs;have hal:a<L.length:=by omega
 refine⟨fun i h0 hi hne=>?_,fun i h0 hi he hp=>?_⟩
 ·rw[swp_len] at hi;rw[swp_it L a s _ hal hsl,swp_it L a s _ hal hsl];rw[if_neg hne];by_cases e1:i=s
  ·subst e1;rw[if_pos (by omega),if_pos rfl];omega
  ·rw[if_neg e1];by_cases e2:(i-1) / 2=a
   ·rw[if_pos e2,if_neg (by omega)];exact hs2 i h0 hi e2
   ·rw[if_neg e2];by_cases e3:i=a
    ·subst e3;rw[if_pos rfl];exact h.2 s (by omega) hsl (by omega) h0
    ·rw[if_neg e3];exact h.1 i h0 hi e2
 ·rw[swp_len] at hi;rw[swp_it L a s _ hal hsl,swp_it L a s _ hal hsl];have e0:(s-1) / 2=a:=by omega
  rw[e0,if_neg (by omega),if_pos rfl,if_neg (by omega),if_neg (by omega)];have:=h.1 i h0 hi (by omega);rw[he] at this;exact this
def cutl(L:List Int):List Int:=(swp L 0 (L.length-1)).take (L.length-1)
theorem cutl_len(L:List Int):(cutl L).length=L.length-1:=by simp [cutl,swp_len]
theorem it_take(L:List Int)(n i:Nat)(h:i<n):it (L.take n) i=it L i:=by simp [it,h]
theorem cutl_perm(L:List Int)(h:0<L.length):(it L 0::cutl L).Perm L:=by
 have h1:=swp_perm L 0 (L.length-1) h (by omega)
 have hs:swp L 0 (L.length-1)=cutl L++[it L 0]:=by
  have h2:=List.take_append_getElem (l:=swp L 0 (L.length-1)) (i:=L.length-1) (by rw[swp_len];omega);rw[it_eq,swp_it L 0 _ _ h (by omega),if_pos rfl] at h2;have:L.length-1+1=(swp L 0 (L.length-1)).length:=by rw[swp_len];omega
  rw[this,List.take_length] at h2;exact h2.symm
 rw[hs] at h1;exact(List.perm_append_singleton _ _).symm.trans h1
theorem Fall.start{L:List Int}(h:Ho L):Fall (cutl L) 0:=by
 refine⟨fun i h0 hi hne=>?_,fun i h0 hi he hp=>by omega⟩;rw[cutl_len] at hi;unfold cutl;rw[it_take _ _ _ (by omega),it_take _ _ _ (by omega),swp_it L 0 _ _ (by omega) (by omega),swp_it L 0 _ _ (by omega) (by omega),if_neg (by omega),if_neg hne,if_neg (by omega),if_neg (by omega)];exact h i h0 (by omega)
def HBox(w:World)(B:Nat)(x:Hp)(vr vc vg:Value):Prop:=
 w.cell? ⟨B,0,none⟩=some (iv x.room)∧w.cell? ⟨B,1,none⟩=some (iv x.used)∧w.cell? ⟨B,2,none⟩=some (iv x.born)∧w.cell? ⟨B,3,none⟩=some vr∧w.cell? ⟨B,4,none⟩=some vc∧w.cell? ⟨B,5,none⟩=some (iv x.phase)∧w.cell? ⟨B,6,none⟩=some (iv x.hand)∧w.cell? ⟨B,7,none⟩=some (iv x.sub)∧w.cell? ⟨B,8,none⟩=some vg∧w.cell? ⟨B,9,none⟩=some (iv x.per)∧w.cell? ⟨B,10,none⟩=some (iv x.start)∧w.cell? ⟨B,11,none⟩=some (iv x.rounds)∧w.cell? ⟨B,12,none⟩=some (iv x.forced)
theorem HBox.ext{w w':World}{B:Nat}{x:Hp}{vr vc vg:Value}(h:HBox w B x vr vc vg)(e:Ext w w'):HBox w' B x vr vc vg:=by
 obtain⟨h0,h1,h2,h3,h4,h5,h6,h7,h8,h9,h10,h11,h12⟩:=h;exact⟨e.keep h0,e.keep h1,e.keep h2,e.keep h3,e.keep h4,e.keep h5,e.keep h6,e.keep h7,e.keep h8,e.keep h9,e.keep h10,e.keep h11,e.keep h12⟩
theorem HBox.new(w:World)(x:Hp)(vr vc vg:Value)(t:TypeId):HBox (w.alloc (.cells #[iv x.room,iv x.used,iv x.born,vr,vc,iv x.phase,iv x.hand,iv x.sub,vg,iv x.per,iv x.start,iv x.rounds,iv x.forced] t)) w.heap.size x vr vc vg:=by
 refine⟨?_,?_,?_,?_,?_,?_,?_,?_,?_,?_,?_,?_,?_⟩ <;> simp [go_sem]
theorem HBox.of{w w':World}{B B':Nat}{x:Hp}{vr vc vg:Value}(h:HBox w B x vr vc vg)(e:∀o,o<13→w'.cell? ⟨B',o,none⟩=w.cell? ⟨B,o,none⟩):HBox w' B' x vr vc vg:=by
 obtain⟨h0,h1,h2,h3,h4,h5,h6,h7,h8,h9,h10,h11,h12⟩:=h;exact⟨(e 0 (by omega)).trans h0,(e 1 (by omega)).trans h1,(e 2 (by omega)).trans h2,(e 3 (by omega)).trans h3,(e 4 (by omega)).trans h4,(e 5 (by omega)).trans h5,(e 6 (by omega)).trans h6,(e 7 (by omega)).trans h7,(e 8 (by omega)).trans h8,(e 9 (by omega)).trans h9,(e 10 (by omega)).trans h10,(e 11 (by omega)).trans h11,(e 12 (by omega)).trans h12⟩
theorem HBox.only{S:Nat→Prop}{w w':World}{B:Nat}{x:Hp}{vr vc vg:Value}(h:HBox w B x vr vc vg)(e:Only S w w')(hs:¬S B):HBox w' B x vr vc vg:=
 h.of fun o _=>e.cells B (cell_lt h.1) hs o
theorem HBox.block{w w':World}{B:Nat}{x:Hp}{vr vc vg:Value}(h:HBox w B x vr vc vg)(e:w'.heap[B]?=w.heap[B]?):HBox w' B x vr vc vg:=
 h.of fun o _=>World.cell?_of_block (a:=⟨B,o,none⟩) e
theorem HBox.far{w:World}{B:Nat}{x:Hp}{vr vc vg:Value}(h:HBox w B x vr vc vg)(b o:Nat)(u:Value)(hb:b≠B∨13≤o):HBox (w.setCell ⟨b,o,none⟩ u) B x vr vc vg:=
 h.of fun o' ho=>cell_other _ (by omega)
theorem HBox.set3{w:World}{B:Nat}{x:Hp}{vr vc vg:Value}(h:HBox w B x vr vc vg)(u:Value):HBox (w.setCell ⟨B,3,none⟩ u) B x u vc vg:=by
 obtain⟨h0,h1,h2,h3,h4,h5,h6,h7,h8,h9,h10,h11,h12⟩:=h;refine⟨?_,?_,?_,?_,?_,?_,?_,?_,?_,?_,?_,?_,?_⟩ <;> first | exact(cell_other _ (by omega)).trans (by assumption) | exact World.cell?_setCell_same _ _ _ (by assumption)
theorem HBox.set4{w:World}{B:Nat}{x:Hp}{vr vc vg:Value}(h:HBox w B x vr vc vg)(u:Value):HBox (w.setCell ⟨B,4,none⟩ u) B x vr u vg:=by
 obtain⟨h0,h1,h2,h3,h4,h5,h6,h7,h8,h9,h10,h11,h12⟩:=h;refine⟨?_,?_,?_,?_,?_,?_,?_,?_,?_,?_,?_,?_,?_⟩ <;> first | exact(cell_other _ (by omega)).trans (by assumption) | exact World.cell?_setCell_same _ _ _ (by assumption)
theorem HBox.set8{w:World}{B:Nat}{x:Hp}{vr vc vg:Value}(h:HBox w B x vr vc vg)(u:Value):HBox (w.setCell ⟨B,8,none⟩ u) B x vr vc u:=by
 obtain⟨h0,h1,h2,h3,h4,h5,h6,h7,h8,h9,h10,h11,h12⟩:=h;refine⟨?_,?_,?_,?_,?_,?_,?_,?_,?_,?_,?_,?_,?_⟩ <;> first | exact(cell_other _ (by omega)).trans (by assumption) | exact World.cell?_setCell_same _ _ _ (by assumption)
theorem HBox.set1{w:World}{B:Nat}{x:Hp}{vr vc vg:Value}(h:HBox w B x vr vc vg)(u:Int):HBox (w.setCell ⟨B,1,none⟩ (iv u)) B { x with used:=u } vr vc vg:=by
 obtain⟨h0,h1,h2,h3,h4,h5,h6,h7,h8,h9,h10,h11,h12⟩:=h;refine⟨?_,?_,?_,?_,?_,?_,?_,?_,?_,?_,?_,?_,?_⟩ <;> first | exact(cell_other _ (by omega)).trans (by assumption) | exact World.cell?_setCell_same _ _ _ (by assumption)
theorem HBox.set2{w:World}{B:Nat}{x:Hp}{vr vc vg:Value}(h:HBox w B x vr vc vg)(u:Int):HBox (w.setCell ⟨B,2,none⟩ (iv u)) B { x with born:=u } vr vc vg:=by
 obtain⟨h0,h1,h2,h3,h4,h5,h6,h7,h8,h9,h10,h11,h12⟩:=h;refine⟨?_,?_,?_,?_,?_,?_,?_,?_,?_,?_,?_,?_,?_⟩ <;> first | exact(cell_other _ (by omega)).trans (by assumption) | exact World.cell?_setCell_same _ _ _ (by assumption)
theorem HBox.set5{w:World}{B:Nat}{x:Hp}{vr vc vg:Value}(h:HBox w B x vr vc vg)(u:Int):HBox (w.setCell ⟨B,5,none⟩ (iv u)) B { x with phase:=u } vr vc vg:=by
 obtain⟨h0,h1,h2,h3,h4,h5,h6,h7,h8,h9,h10,h11,h12⟩:=h;refine⟨?_,?_,?_,?_,?_,?_,?_,?_,?_,?_,?_,?_,?_⟩ <;> first | exact(cell_other _ (by omega)).trans (by assumption) | exact World.cell?_setCell_same _ _ _ (by assumption)
theorem HBox.set6{w:World}{B:Nat}{x:Hp}{vr vc vg:Value}(h:HBox w B x vr vc vg)(u:Int):HBox (w.setCell ⟨B,6,none⟩ (iv u)) B { x with hand:=u } vr vc vg:=by
 obtain⟨h0,h1,h2,h3,h4,h5,h6,h7,h8,h9,h10,h11,h12⟩:=h;refine⟨?_,?_,?_,?_,?_,?_,?_,?_,?_,?_,?_,?_,?_⟩ <;> first | exact(cell_other _ (by omega)).trans (by assumption) | exact World.cell?_setCell_same _ _ _ (by assumption)
theorem HBox.set7{w:World}{B:Nat}{x:Hp}{vr vc vg:Value}(h:HBox w B x vr vc vg)(u:Int):HBox (w.setCell ⟨B,7,none⟩ (iv u)) B { x with sub:=u } vr vc vg:=by
 obtain⟨h0,h1,h2,h3,h4,h5,h6,h7,h8,h9,h10,h11,h12⟩:=h;refine⟨?_,?_,?_,?_,?_,?_,?_,?_,?_,?_,?_,?_,?_⟩ <;> first | exact(cell_other _ (by omega)).trans (by assumption) | exact World.cell?_setCell_same _ _ _ (by assumption)
theorem HBox.set11{w:World}{B:Nat}{x:Hp}{vr vc vg:Value}(h:HBox w B x vr vc vg)(u:Int):HBox (w.setCell ⟨B,11,none⟩ (iv u)) B { x with rounds:=u } vr vc vg:=by
 obtain⟨h0,h1,h2,h3,h4,h5,h6,h7,h8,h9,h10,h11,h12⟩:=h;refine⟨?_,?_,?_,?_,?_,?_,?_,?_,?_,?_,?_,?_,?_⟩ <;> first | exact(cell_other _ (by omega)).trans (by assumption) | exact World.cell?_setCell_same _ _ _ (by assumption)
theorem HBox.set12{w:World}{B:Nat}{x:Hp}{vr vc vg:Value}(h:HBox w B x vr vc vg)(u:Int):HBox (w.setCell ⟨B,12,none⟩ (iv u)) B { x with forced:=u } vr vc vg:=by
 obtain⟨h0,h1,h2,h3,h4,h5,h6,h7,h8,h9,h10,h11,h12⟩:=h;refine⟨?_,?_,?_,?_,?_,?_,?_,?_,?_,?_,?_,?_,?_⟩ <;> first | exact(cell_other _ (by omega)).trans (by assumption) | exact World.cell?_setCell_same _ _ _ (by assumption)
theorem units_take(cs:List Cl)(k:Nat)(h:k<cs.length):units (cs.take (k+1))=units (cs.take k)+unitsOf cs[k]:=by
 unfold units;rw[List.take_succ_eq_append_getElem h];simp only [List.map_append,List.sum_append,List.map_cons,List.map_nil,List.sum_cons,List.sum_nil,Nat.add_zero]
theorem set_out(g:Nat):∀(vs:List Value) (o j:Nat) (w:World),(j<o∨o+vs.length≤j)→(w.setCells g o vs).cell? ⟨g,j,none⟩=w.cell? ⟨g,j,none⟩
 | [],_,_,_,_=>rfl
 | v::r,o,j,w,h=>by
  show((w.setCell ⟨g,o,none⟩ v).setCells g (o+1) r).cell? ⟨g,j,none⟩=_;simp only [List.length_cons] at h;rw[set_out g r (o+1) j _ (by omega)];exact cell_other _ (.inr (by omega))
theorem set_in(g:Nat):∀(vs:List Value) (o k:Nat) (w:World),(∀m,m<vs.length→∃u,w.cell? ⟨g,o+m,none⟩=some u)→k<vs.length→(w.setCells g o vs).cell? ⟨g,o+k,none⟩=vs[k]?
 | [],_,_,_,_,hk=>by simp at hk
 | v::r,o,0,w,hm,_=>by
  show((w.setCell ⟨g,o,none⟩ v).setCells g (o+1) r).cell? ⟨g,o+0,none⟩=_;rw[set_out g r (o+1) (o+0) _ (by omega)];obtain⟨u,hu⟩:=hm 0 (by simp);exact World.cell?_setCell_same _ _ _ hu
 | v::r,o,k+1,w,hm,hk=>by
  show((w.setCell ⟨g,o,none⟩ v).setCells g (o+1) r).cell? ⟨g,o+(k+1),none⟩=_
  have:=set_in g r (o+1) k (w.setCell ⟨g,o,none⟩ v) (fun m hm'=>by
   obtain⟨u,hu⟩:=hm (m+1) (by simp;omega);refine⟨u,?_⟩;rw[cell_other _ (.inr (by omega)),show o+1+m=o+(m+1) by omega];exact hu) (by simpa using hk)
  rw[show o+1+k=o+(k+1) by omega] at this;rw[this];rfl
def DueTo(x:Hp)(k:Nat)(r:Int):Prop:=(r = -1∧∀i,i<k→(x.c i).last≠2)∨∃i:Nat,r=(i:Int)∧i<k∧(x.c i).last=2∧∀j,j<k→(x.c j).last=2→(x.c i).born≤(x.c j).born
theorem DueTo.no{x:Hp}{k:Nat}{r:Int}(h:DueTo x k r)(hk:(x.c k).last≠2):DueTo x (k+1) r:=by
 rcases h with⟨h,n⟩ | ⟨i,h,hi,di,mi⟩
 ·exact .inl ⟨h,fun j hj=>by rcases (by omega:j<k∨j=k) with q | q;exact n j q;subst q;exact hk⟩
 ·exact .inr ⟨i,h,by omega,di,fun j hj dj=>by rcases (by omega:j<k∨j=k) with q | q;exact mi j q dj;subst q;exact(hk dj).elim⟩
theorem DueTo.first{x:Hp}{k:Nat}(h:DueTo x k (-1))(hk:(x.c k).last=2):DueTo x (k+1) k:=by
 rcases h with⟨h,n⟩ | ⟨i,h,hi,di,mi⟩
 ·exact .inr ⟨k,rfl,by omega,hk,fun j hj dj=>by rcases (by omega:j<k∨j=k) with q | q;exact(n j q dj).elim;subst q;omega⟩
 ·omega
theorem DueTo.less{x:Hp}{k i:Nat}(h:DueTo x k i)(hk:(x.c k).last=2)(hl:(x.c k).born<(x.c i).born):DueTo x (k+1) k:=by
 rcases h with⟨h,n⟩ | ⟨i',h,hi,di,mi⟩
 ·omega
 ·obtain rfl:i'=i:=by omega
  exact .inr ⟨k,rfl,by omega,hk,fun j hj dj=>by rcases (by omega:j<k∨j=k) with q | q;have:=mi j q dj;omega;subst q;omega⟩
def speaksN(c:Cl):Bool:=(c.last == 1) || (c.last == 2)
theorem speaksN_iff{c:Cl}:speaksN c=true↔Speaks c:=by simp [speaksN,Speaks]
theorem speaks_any(c:Cl)(bn q bc r:Nat)(ap:Option Addr)(kp:Nat)(w:World)(m1:w.cell? ⟨bn,q+1,none⟩=some (.pointer (some ⟨bc,r,none⟩)))(h:CAt w bc r c ap kp):
  Calls Tryz.prog 166 #[.pointer (some ⟨bn,q,none⟩)] w fun e w'=>e=.returned (.bool (speaksN c))∧w'=w:=by
 have p3:=h.p3;clear h;cases t:(c.last == 1)
 all_goals
  go_enter Tryz.func166,Tryz.ntmps166
  go_wp2
  go_ret;exact⟨by simp [speaksN,t],rfl⟩
def markingB(x:Hp):Bool:=(x.phase == 1) || (x.phase == 2)
theorem marking_any(x:Hp)(b:Nat)(w:World)(c5:w.cell? ⟨b,5,none⟩=some (iv x.phase)):
  Calls Tryz.prog 145 #[.pointer (some ⟨b,0,none⟩)] w fun e w'=>e=.returned (.bool (markingB x))∧w'=w:=by
 cases t:(x.phase == 1)
 all_goals
  go_enter Tryz.func145,Tryz.ntmps145
  go_wp2
  go_ret;exact⟨by simp [markingB,t],rfl⟩
structure Ak where
 op:Int
 a:Int
 b:Int
 c:Int
 n:Int
abbrev Ak.v(x:Ak):Value:=.agg #[iv x.op,iv x.a,iv x.b,iv x.c,iv x.n]
def AkAt(w:World)(b o:Nat)(x:Ak):Prop:=w.cell? ⟨b,o,none⟩=some (iv x.op)∧w.cell? ⟨b,o+1,none⟩=some (iv x.a)∧w.cell? ⟨b,o+2,none⟩=some (iv x.b)∧w.cell? ⟨b,o+3,none⟩=some (iv x.c)∧w.cell? ⟨b,o+4,none⟩=some (iv x.n)
abbrev SlA(w:World)(v:Value)(xs:List Ak):Prop:=SlOf (AkAt w) 5 v xs
theorem AkAt.ext{w w':World}(h:Ext w w'){b o:Nat}{x:Ak}(hx:AkAt w b o x):AkAt w' b o x:=⟨h.keep hx.1,h.keep hx.2.1,h.keep hx.2.2.1,h.keep hx.2.2.2.1,h.keep hx.2.2.2.2⟩
theorem SlA.ext{w w':World}(h:Ext w w'){v:Value}{xs:List Ak}(hx:SlA w v xs):SlA w' v xs:=hx.mono fun _ _ _ k=>k.ext h
theorem slA_form{w:World}{v:Value}{xs:List Ak}(h:SlA w v xs):∃ad cap,v=.slice ad xs.length cap:=let ⟨a,c,e,_⟩:=h;⟨a,c,e⟩
abbrev Ak.l(x:Ak):List Value:=[iv x.op,iv x.a,iv x.b,iv x.c,iv x.n]
def zw(n:Nat):Array Value:=Array.replicate n (iv 0)
theorem mk16(w:World):(Instr.makeSlice 30 (.int .i64 16) (.int .i64 16)).run Tryz.prog w=.ok (.slice (some ⟨w.heap.size,0,none⟩) 16 16) (w.alloc (.cells (zw 48) 152)):=by kernel_rfl
end Go.Proofs.YtddkhnclmeikfaaGreat
