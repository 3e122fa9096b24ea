import Derived.Test.YtddkhnclmeikfaaGreatSp2
import Derived.Shelf.SlSortCmp.NoneTotal
set_option maxRecDepth 100000
set_option maxHeartbeats 2000000
namespace Go.Proofs.YtddkhnclmeikfaaGreat
open Go.RowKit
attribute [local go_sem ↓] Go.wp_at_zero Go.wp_at_succ
variable{ar ac ag:Option Addr}{kr kc kg k B U kn:Nat}{w w':World}{y x:Hp}
theorem c7a(p:Option Addr)(cap:Nat)(w:World):
  Calls Tryz.prog 167 #[.slice p 0 cap,.func (.func 168) #[] #[]] w λe w'=>e=.returned (.tuple #[])/\w'=w:=
 AnyF.slices_SortFunc_none (P:=Tryz.prog) (ρ:=Tryz.sortL_ren) { Tryz.sortL with } p cap (.func (.func 168) #[] #[]) w
theorem d0z(x:Hp)(b base:Nat)(v:Value)(Ls:List Nat)(w:World){ac:Nat->Option Addr}(bn on:Nat)(h:VNt w b x ar kr ac (some ⟨bn,on,none⟩) kn)(hbn:∀i,i<x.A.length->∃bc oc,ac i=some ⟨bc,oc,none⟩/\bc<base/\bn<base)(hL:∀i,i∈Ls->i<x.A.length)(h8:Ls.length<=8000)
  (hv:w.ownsRow base 126 1 v Ls.length (Ls.map (λi=>ptr bn (on+i*2)))) (hbs:base<=w.heap.size) :
  Calls Tryz.prog 167 #[v,.func (.func 168) #[] #[]] w λe w'=>e=.returned (.tuple #[])/\Hid (∃g cap Ls',v=.slice g Ls'.length cap/\List.Perm Ls' Ls/\(∀j (hj:j<Ls'.length),∃gb go,g=some ⟨gb,go,none⟩/\w'.cell? ⟨gb,go+j,none⟩=some (ptr bn (on+Ls'[j]*2))/\base<=gb)/\SrtN x Ls')/\Below base w w':=by
 by_cases h0:Ls=[]
 ·subst h0
  obtain⟨p,cap,rfl⟩:∃p cap,v=.slice p 0 cap:=by
   rcases hv.2 with⟨e,_⟩ | ⟨g,cap,cur,e,_⟩
   ·exact⟨none,0,e⟩
   ·exact⟨_,_,e⟩
  exact(c7a p cap w).mono λ_ _ ⟨he,hw⟩=>by subst hw;exact⟨he,⟨p,cap,[],rfl,List.Perm.refl _,(λj hj=>by simp at hj),λi j hi=>by simp at hi⟩,Below.refl _ _⟩
 ·have hpos:0<Ls.length:=List.length_pos_iff.2 h0;rcases hv.2 with⟨_,e⟩ | ⟨g,cap,cur,rfl,hg,hb,_⟩
  ·omega
  ·have hgs:g<w.heap.size:=by
    rcases Nat.lt_or_ge g w.heap.size with q | q
    ·exact q
    ·rw[Array.getElem?_eq_none q] at hb;cases hb
   have hne:0<x.A.length:=by have:=hL _ (List.getElem_mem hpos);omega
   have hc:∀j (hj:j<Ls.length),w.cell? ⟨g,j,none⟩=some (ptr bn (on+Ls[j]*2))/\w.frozen? ⟨g,j,none⟩=false:=λj hj=>by
    refine⟨?_,World.ownsRow.frozenAt hv j⟩;rw[World.ownsRow.cellAt hv j (by omega)];simp [List.getElem?_eq_getElem hj]
   exact(c6z x b base g cap Ls w bn on h hbn hL hne h8 hc hg hgs hbs).mono λ_ w' ⟨he,L',hp,hc',hsr,hbl⟩=>⟨he,⟨some ⟨g,0,none⟩,cap,L',by rw[hp.length_eq],hp,λj hj=>⟨g,0,rfl,by rw[Nat.zero_add];exact hc' j hj,hg⟩,hsr⟩,hbl⟩
def spk(x:Hp)(k:Nat):List Nat:=(List.range k).filter (λi=>a0r (x.c i))
theorem spk_no(h:a0r (x.c k)=false):spk x (k+1)=spk x k:=by simp [spk,List.range_succ,List.filter_append,h]
theorem spk_yes(h:a0r (x.c k)=true):spk x (k+1)=spk x k++[k]:=by simp [spk,List.range_succ,List.filter_append,h]
theorem spk_len(x:Hp)(k:Nat):(spk x k).length<=k:=by have:=List.length_filter_le (λi=>a0r (x.c i)) (List.range k);simpa [spk] using this
theorem c3m{i:Nat}:i∈spk x k↔i<k/\cU (x.c i):=by simp [spk,a3b]
theorem row_ext{a w2:World}{T:TypeId}{v:Value}{n:Nat}{vs:List Value}{o:Obj}(h:w.ownsRow a.heap.size T 1 v n vs)(e:Ext a w)(hg:(w.alloc o).grownBy w2 v.ownBlock):Ext a w2:=by
 have hs:w.heap.size+1<=w2.heap.size:=by have:=hg.size;simpa using this
 refine Below.trans e ⟨hg.os,hg.tape,hg.output,by omega,λk hk=>?_⟩;have hkw:k<w.heap.size:=Nat.lt_of_lt_of_le hk e.size;rw[hg.block k (by simp;omega) (λf=>by have:=(h.lt k f.symm).1;omega),Below.heap_alloc _ o k hkw]
theorem b7h(x:Hp)(b:Nat)(w:World){ar:Option Addr}{kr:Nat}{ac:Nat->Option Addr}{kn:Nat}(bn on:Nat)(h:VNt w b x ar kr ac (some ⟨bn,on,none⟩) kn)(hn8:x.A.length<=8000):
  Calls Tryz.prog 102 #[.pointer (some ⟨b,0,none⟩)] w λe w'=>∃(g:Option Addr) (cap:Nat) (Ls:List Nat),Hid (e=.returned (.slice g Ls.length cap))/\Hid (c0g x w w' g bn on Ls)/\Hid (SrtN x Ls/\Ls.Perm (spk x x.A.length))/\Ext w w':=by
 obtain⟨i0,hi0,hy0,hy1,hy2⟩:=info_parts b5x;have n13:=h.n13;have HV:=uU h;clear h;go_enter Tryz.func102,Tryz.ntmps102;go_wp2_with fail;go_loopw [3,10] (λv i wr=>∃(k:Nat),k<=x.A.length/\i=.int .i64 k/\Hid (wr.ownsRow w.heap.size 126 1 v (spk x k).length ((spk x k).map (λi=>ptr bn (on+i*2))))/\Ext w wr) (λ_ i _=>x.A.length-(intOf i).toNat)
 case atStart=>exact⟨0,Nat.zero_le _,rfl,World.ownsRow_nil _ _ _ _,Ext.refl w⟩
 case round=>
  clear n13;obtain⟨k,hk,rfl,hrw,hbl⟩:=hrel;have hlen:=spk_len x k;by_cases hlt:k<x.A.length
  ·have hh:=HV.ext hbl;have n13:=hh.n13;obtain⟨bc,oc,ap,kp,e1,C⟩:=hh.H.cell k hlt;obtain⟨bn',on',bc',oc',e2,e3,m0,m1⟩:=hh.N k hlt;rw[e1] at e3;cases e2;cases e3;have HC:=uU C;have hb0:b<wr.heap.size:=uL n13;have hk0:(0:Int)<=(k:Int):=by omega
   have hk1:(k:Int)<(x.A.length:Int):=by omega
   clear hh C m0 e1;go_wp2_with fail;refine(a2u (x.c k) bn (on+k*2) bc oc ap kp _ m1 HC).mono ?_;rintro e w1 ⟨rfl,rfl⟩;clear m1 HC;cases t:a0r (x.c k)
   ·have R:=uU (show _ from spk_no t ▸ uH hrw);clear t;go_wp2_with fail;go_roundw
    case rel=>exact⟨k+1,by omega,by go_num,R,hbl⟩
    case measure=>simp [intOf];omega
   ·have T:=uU t;clear t;go_wp2_with (at_builtin;refine wpList_append_lies _ rfl _ _ 130 rfl w.heap.size 126 i0 (.pointer none) 1 8 Tryz.underlying130 hi0 hy0 hy1 hy2 rfl (by decide) _ (spk x k).length ((spk x k).map (λi=>ptr bn (on+i*2))) rfl (hrw.alloc _) _ 1 1 [ptr bn (on+k*2)] rfl rfl ?c1 ?c2 (by decide) ?c3 ?c4 ?c5 _ rfl ?_)
    case c1=>
     intro j u hj
     match j,hj with
     | 0,hj=>simp at hj;subst hj;simp [Addr.add]
    case c2=>intro u hu;simp at hu;subst hu;rfl
    case c3=>unfold maxLen;omega
    case c4=>have:=hbl.size;simp;omega
    case c5=>have:=hbl.size;simp;omega
    intro g cap w2 hown hgrow hat hglt;have R:=uU (And.intro (show w2.ownsRow w.heap.size 126 1 (.slice (some ⟨g,0,none⟩) ((spk x k).length+1) cap) (spk x (k+1)).length ((spk x (k+1)).map (λi=>ptr bn (on+i*2))) by rw[spk_yes (uH T)];simpa using hown) (row_ext hrw hbl hgrow));clear hown hgrow hat hglt;go_wp2_with fail;go_roundw
    case rel=>exact⟨k+1,by omega,by go_num,R.1,R.2⟩
    case measure=>simp [intOf];omega
  ·have hk2:k=x.A.length:=by omega
   subst hk2;have VB:=uU (HV.ext hbl)
   have BB:=uU (show ∀i,i<x.A.length->∃bc oc,ac i=some ⟨bc,oc,none⟩/\bc<w.heap.size/\bn<w.heap.size from λi hi=>by
    obtain⟨bn',on',bc,oc,e1,e2,m0,_⟩:=HV.N i hi;obtain⟨bc2,oc2,ap,kp,e3,C⟩:=HV.H.cell i hi;rw[e2] at e3;cases e1;cases e3;exact⟨bc,oc,e2,uL C.p0,uL m0⟩)
   go_wp2_with fail;refine(d0z x b w.heap.size _ (spk x x.A.length) _ bn on VB BB (λi hi=>(c3m.1 hi).1) (by omega) hrw hbl.size).mono ?_;rintro e w3 ⟨rfl,hs,hb3⟩;have x3:Ext w w3:=Below.trans hbl hb3;go_wp2_with fail;go_ret;obtain⟨g,cap,L',e,hp,hc,hsr⟩:=uH hs;exact⟨g,cap,L',by show _=_;rw[e];rfl,⟨hc,by have:=hp.length_eq;omega,λi=>by rw[hp.mem_iff];exact c3m⟩,⟨hsr,hp⟩,x3⟩
theorem b7i(x:Hp)(b:Nat)(w:World){ac:Nat->Option Addr}(bn on:Nat)(h:VNt w b x ar kr ac (some ⟨bn,on,none⟩) kn)(hn8:x.A.length<=8000):
  Calls Tryz.prog 102 #[.pointer (some ⟨b,0,none⟩)] w λe w'=>∃(g:Option Addr) (cap:Nat) (Ls:List Nat),Hid (e=.returned (.slice g Ls.length cap))/\Hid (c0g x w w' g bn on Ls)/\Ext w w':=
 (b7h x b w bn on h hn8).mono λ_ _ ⟨g,cap,Ls,a,b,_,c⟩=>⟨g,cap,Ls,a,b,c⟩
theorem HA.rd(h:HA B U w y ar kr ac kc ag kg):HRd w y ar kr ac kc ag kg:=by
 rcases h with⟨rfl,rfl,rfl,rfl,rfl,rfl,rfl⟩ | ⟨br,bc,bg,pb,pa,pk,rfl,rfl,rfl,h⟩
 ·exact HRd.zero w
 ·exact⟨h.r,h.cs,h.g⟩
theorem HA.ext(h:HA B U w y ar kr ac kc ag kg)(e:Ext w w'):HA B U w' y ar kr ac kc ag kg:=by
 rcases h with h | ⟨br,bc,bg,pb,pa,pk,h1,h2,h3,h⟩
 ·exact .inl h
 ·exact .inr ⟨br,bc,bg,pb,pa,pk,h1,h2,h3,h.ext e⟩
theorem HA.only{S:Nat->Prop}(h:HA B U w y ar kr ac kc ag kg)(e:uZ S w w')(hs:∀q,B<=q->q<U->¬S q):HA B U w' y ar kr ac kc ag kg:=by
 rcases h with h | ⟨br,bc,bg,pb,pa,pk,h1,h2,h3,h⟩
 ·exact .inl h
 ·exact .inr ⟨br,bc,bg,pb,pa,pk,h1,h2,h3,h.only e hs⟩
end Go.Proofs.YtddkhnclmeikfaaGreat
