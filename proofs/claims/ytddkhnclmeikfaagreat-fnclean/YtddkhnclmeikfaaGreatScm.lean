import Derived.Test.YtddkhnclmeikfaaGreatImpF
import Derived.Test.YtddkhnclmeikfaaGreatSpecH4
import Derived.Deep.DeepCutAuto
import Derived.Deep.LoopGhost
import Derived.OwnWalk
set_option maxRecDepth 100000
set_option maxHeartbeats 8000000
namespace Go.Proofs.YtddkhnclmeikfaaGreat
open Go.RowKit
attribute [local go_sem ↓] Go.wp_at_zero Go.wp_at_succ
variable{x:Hp}{w w' w2 a W:World}{L M L':List Int}{v v' vw:Value}{base bs n kr kc kg g cap i j B:Nat}{y:Wd}{ar ac ag:Option Addr}{z:Int}
theorem a7v(y:Wd)(b:Nat)(w:World)(k2:(y.k == 2)=false):
  Calls Tryz.prog 138 #[.pointer (some ⟨b,0,none⟩),y.v] w λe w'=>e=.returned y.v/\Ext w w':=by
 go_enter Tryz.func138,Tryz.ntmps138;go_wp2_with fail;go_quiet (fail);go_wp2_with fail;refine bodyPost_ret (v:=y.v) (by simp [results,Tryz.results138,go_sem]) rfl ⟨rfl,?_⟩
 repeat (first | exact Ext.refl _ | refine Ext.drewN ?_ _ | refine Ext.alloc ?_ _ | refine Ext.setCell ?_ (by show w.heap.size<=w.heap.size+1;omega) _)
theorem b1y(x:Hp)(b i:Nat)(w:World)(h:HAt w b x ar kr ac kc ag kg)(hi:i<x.A.length)(s2:((x.c i).st == 2)=false):
  Calls Tryz.prog 138 #[.pointer (some ⟨b,0,none⟩),.agg #[iv 2,iv 0,iv i]] w λe w'=>e=.returned (.agg #[iv 2,iv 0,iv i])/\Ext w w':=by
 obtain⟨b',o,ap,kp,rfl,C⟩:=h.cell i hi;have p0:=C.p0;have c4:=h.c4;have hb:b<w.heap.size:=uL c4;have hb':b'<w.heap.size:=uL p0;have i0:(0:Int)<=(i:Int):=by omega
 have i1:(i:Int)<(x.A.length:Int):=by omega
 clear C h;go_enter Tryz.func138,Tryz.ntmps138;go_wp2_with fail;go_quiet (fail);go_wp2_with fail;refine bodyPost_ret (v:=.agg #[iv 2,iv 0,iv i]) (by simp [results,Tryz.results138,go_sem]) rfl ⟨rfl,?_⟩
 repeat (first | exact Ext.refl _ | refine Ext.drewN ?_ _ | refine Ext.alloc ?_ _ | refine Ext.setCell ?_ (by show w.heap.size<=w.heap.size+1;omega) _)
theorem b1m(x:Hp)(b i:Nat)(w:World)(h:HAt w b x ar kr ac kc ag kg)(hi:i<x.A.length)(s2:((x.c i).st == 2)=true):
  Calls Tryz.prog 138 #[.pointer (some ⟨b,0,none⟩),.agg #[iv 2,iv 0,iv i]] w λe w'=>e=.returned (.agg #[iv 2,iv 0,iv (x.c i).to])/\Ext w w':=by
 obtain⟨b',o,ap,kp,rfl,C⟩:=h.cell i hi;have p0:=C.p0;have p6:=C.p6;have c4:=h.c4;have hb:b<w.heap.size:=uL c4;have hb':b'<w.heap.size:=uL p0;have i0:(0:Int)<=(i:Int):=by omega
 have i1:(i:Int)<(x.A.length:Int):=by omega
 clear C h;go_enter Tryz.func138,Tryz.ntmps138;go_wp2_with fail;go_quiet (fail);go_wp2_with fail
 go_region
 all_goals
  go_wp2_with fail;refine bodyPost_ret (v:=.agg #[iv 2,iv 0,iv (x.c i).to]) (by simp [results,Tryz.results138,go_sem]) rfl ⟨rfl,?_⟩
  repeat (first | exact Ext.refl _ | refine Ext.drewN ?_ _ | refine Ext.drew ?_ | refine Ext.alloc ?_ _ | refine Ext.setCell ?_ (by show w.heap.size<=w.heap.size+1;omega) _)
def zH(x:Hp)(i:Nat):Nat:=if ((x.c i).st == 2)=true then (x.c i).to.toNat else i
structure Sn(w:World)(base bs n:Nat)(v:Value)(L:List Int):Prop where
 hb:base<=bs/\bs<w.heap.size
 s:∀i,i<n->w.cell? ⟨bs,i,none⟩=some (.bool (decide ((i:Int)∈L)))
 f:∀i,i<n->w.frozen? ⟨bs,i,none⟩=false
 own:w.ownsRow base 3 1 v L.length (L.map iv)
 ap:v.ownBlock≠some bs
 nd:L.Nodup
 rg:∀z,z∈L->0<=z/\z<n
theorem Sn.ext(h:Sn w base bs n v L)(e:Ext w w'):Sn w' base bs n v L:=
 ⟨⟨h.hb.1,Nat.lt_of_lt_of_le h.hb.2 e.size⟩,λi hi=>e.keep (h.s i hi),λi hi=>by rw[e.frozen (p:=⟨bs,i,none⟩) h.hb.2];exact h.f i hi,uN h.own (λk hk=>e.block k (h.own.lt k hk).2),h.ap,h.nd,h.rg⟩
theorem Sn.len(h:Sn w base bs n v L):L.length<=n:=by
 have hs:∀z,z∈L->z∈(List.range n).map (λi:Nat=>(i:Int)):=λz hz=>by
  have:=h.rg z hz;exact List.mem_map.2 ⟨z.toNat,by simp;omega,by omega⟩
 have:=List.Nodup.length_le_of_subset h.nd hs
 simpa using this
structure Mfr(bs:Nat)(v v':Value)(w w':World):Prop where
 os:w'.os=w.os
 tape:w'.tape=w.tape
 output:w'.output=w.output
 size:w.heap.size<=w'.heap.size
 block:∀k:Nat,k<w.heap.size->k≠bs->v.ownBlock≠some k->w'.heap[k]?=w.heap[k]?
 own:v'.ownBlock=v.ownBlock\/∃g,v'.ownBlock=some g/\w.heap.size<=g
theorem Mfr.of_ext(e:Ext w w'):Mfr bs v v w w':=⟨e.os,e.tape,e.output,e.size,λk hk _ _=>e.block k hk,.inl rfl⟩
theorem Mfr.after{w1:World}(e:Ext w w1)(q:Mfr bs v v' w1 w2):Mfr bs v v' w w2:=
 ⟨q.os.trans e.os,q.tape.trans e.tape,q.output.trans e.output,Nat.le_trans e.size q.size,λk hk h1 h2=>(q.block k (Nat.lt_of_lt_of_le hk e.size) h1 h2).trans (e.block k hk),by
  rcases q.own with h | ⟨g,h,hg⟩
  ·exact .inl h
  ·exact .inr ⟨g,h,Nat.le_trans e.size hg⟩⟩
theorem Mfr.ext(q:Mfr bs v v' w w')(e:Ext a w)(hb:a.heap.size<=bs)(hv:∀k,v.ownBlock=some k->a.heap.size<=k):Ext a w':=
 Below.trans e ⟨q.os,q.tape,q.output,q.size,λk hk=>q.block k (Nat.lt_of_lt_of_le hk e.size) (by omega) (λh=>by have:=hv k h;omega)⟩
theorem Sn.own2(h:Sn w base bs n v L)(hW:Ext (w.setCell ⟨bs,j,none⟩ (.bool true)) W):W.ownsRow base 3 1 v L.length (L.map iv):=
 uN h.own (λk hk=>(hW.block k (by simpa using (h.own.lt k hk).2)).trans (Below.heap_setCell _ _ _ _ (show k≠bs from λe=>h.ap (e ▸ hk))))
theorem Sn.add(h:Sn w base bs n v L)(hj:j<n)(hn:¬(j:Int)∈L)(hW:Ext (w.setCell ⟨bs,j,none⟩ (.bool true)) W)
  (hown:w2.ownsRow base 3 1 (.slice (some ⟨g,0,none⟩) (L.length+1) cap) (L.length+1) (L.map iv++[iv j])) (hg:W.grownBy w2 v.ownBlock) (hat:v.ownBlock=some g\/g=W.heap.size) :
  Sn w2 base bs n (.slice (some ⟨g,0,none⟩) (L.length+1) cap) (L++[(j:Int)])/\Mfr bs v (.slice (some ⟨g,0,none⟩) (L.length+1) cap) w w2:=by
 have hs0:w.heap.size<=W.heap.size:=by have:=hW.size;simpa using this
 have hs1:W.heap.size<=w2.heap.size:=hg.size
 have hgb:g≠bs:=by
  rcases hat with e | e
  ·intro q;exact h.ap (q ▸ e)
  ·have:=h.hb.2;omega
 have blk:∀k:Nat,k<w.heap.size->v.ownBlock≠some k->w2.heap[k]?=(w.setCell ⟨bs,j,none⟩ (.bool true)).heap[k]?:=λk hk hv=>
  (hg.block k (by omega) (λe=>hv e.symm)).trans (hW.block k (by simpa using hk))
 have hbs:=blk bs h.hb.2 h.ap;refine⟨⟨⟨h.hb.1,by have:=h.hb.2;omega⟩,λi hi=>?_,λi hi=>?_,by simpa using hown,λe=>hgb (by simpa [Value.ownBlock] using e),?_,λz hz=>?_⟩,⟨hg.os.trans hW.os,hg.tape.trans hW.tape,hg.output.trans hW.output,by omega,λk hk h1 h2=>?_,?_⟩⟩
 ·rw[World.cell?_of_block (w:=w.setCell ⟨bs,j,none⟩ (.bool true)) (a:=⟨bs,i,none⟩) hbs];by_cases e:i=j
  ·subst e;rw[World.cell?_setCell_same _ _ _ (h.s i hi)];simp
  ·rw[uC _ (.inr (λq=>e q.symm)),h.s i hi];simp only [List.mem_append,List.mem_singleton]
   congr 2
   exact decide_eq_decide.2 ⟨λq=>.inl q,λq=>by rcases q with q | q;exact q;omega⟩
 ·rw[World.frozen?_of_block (w:=w.setCell ⟨bs,j,none⟩ (.bool true)) (a:=⟨bs,i,none⟩) hbs,World.frozen?_setCell];exact h.f i hi
 ·rw[List.nodup_append];exact⟨h.nd,by simp,λa ha b hb=>by simp at hb;rw[hb];intro e;exact hn (e ▸ ha)⟩
 ·rcases List.mem_append.1 hz with q | q
  ·exact h.rg z q
  ·simp at q;omega
 ·rw[blk k hk h2,Below.heap_setCell _ _ _ _ (show k≠bs from h1)]
 ·rcases hat with e | e
  ·exact .inl (by rw[e];rfl)
  ·exact .inr ⟨g,rfl,by omega⟩
theorem b7o:(Tryz.prog.info? 3).map (λi=>(i.zero,i.size,i.bytes))=some (some (.int .i64 0),1,8):=by kernel_rfl
theorem a8z(x:Hp)(b i:Nat)(w:World)(h:HAt w b x ar kr ac kc ag kg)(hi:i<x.A.length)(ht:(x.c i).st=2->0<=(x.c i).to):
  Calls Tryz.prog 138 #[.pointer (some ⟨b,0,none⟩),.agg #[iv 2,iv 0,iv i]] w λe w'=>e=.returned (.agg #[iv 2,iv 0,iv (zH x i)])/\Ext w w':=by
 cases s2:((x.c i).st == 2)
 ·have:zH x i=i:=by simp only [zH,s2];simp
  rw[this];exact b1y x b i w h hi s2
 ·have h2:(x.c i).st=2:=by simpa using s2
  have:((zH x i:Nat):Int)=(x.c i).to:=by simp only [zH,s2];have:=ht h2;simp;omega
  rw[this];exact b1m x b i w h hi s2
theorem c3w(y:Wd)(b base bs n:Nat)(v:Value)(L:List Int)(w:World)(hs:Sn w base bs n v L)(k2:(y.k == 2)=false):
  Calls Tryz.prog 137 #[.pointer (some ⟨b,0,none⟩),.slice (some ⟨bs,0,none⟩) n n,v,y.v] w λe w'=>Hid (e=.returned v)/\Sn w' base bs n v L/\Ext w w':=by
 have HS:=uU hs;have k2b:(y.k != 2)=true:=by simpa using k2
 clear hs;go_enter Tryz.func137,Tryz.ntmps137;go_wp2_with fail;refine(a7v y b _ k2).mono ?_;rintro e w1 ⟨rfl,hq⟩;have x1:Ext w w1:=Ext.trans ((Ext.refl w).alloc _) hq;go_wp2_with fail;go_ret;exact⟨rfl,HS.ext (x1.alloc _),x1.alloc _⟩
theorem c3x(x:Hp)(b i base bs:Nat)(v:Value)(L:List Int)(w:World){ar:Option Addr}{kr:Nat}{ac:Option Addr}{kc:Nat}{ag:Option Addr}{kg:Nat}(h:HAt w b x ar kr ac kc ag kg)(hi:i<x.A.length)(ht:(x.c i).st=2->0<=(x.c i).to)(hj:zH x i<x.A.length)(hs:Sn w base bs x.A.length v L)(hbw:base<=w.heap.size)(hn8:x.A.length<=8000):
  Calls Tryz.prog 137 #[.pointer (some ⟨b,0,none⟩),.slice (some ⟨bs,0,none⟩) x.A.length x.A.length,v,.agg #[iv 2,iv 0,iv i]] w λe w'=>∃v' L',Hid (e=.returned v')/\Sn w' base bs x.A.length v' L'/\Hid (((zH x i:Int)∈L/\L'=L)\/(¬(zH x i:Int)∈L/\L'=L++[(zH x i:Int)]))/\Mfr bs v v' w w':=by
 obtain⟨i0,hi0,hz0,hz1,hz2⟩:=info_parts b7o;have HS:=uU hs;have HH:=uU h;have hlen:=hs.len;clear hs h;obtain⟨j,ej⟩:∃j,zH x i=j:=⟨_,rfl⟩;have LR:=uU (λW (e:Ext w W)=>a8z x b i W (HH.ext e) hi ht);rw[ej] at LR hj ⊢;clear ej;have j0:(0:Int)<=(j:Int):=by omega
 have j1:(j:Int)<(x.A.length:Int):=by omega
 go_enter Tryz.func137,Tryz.ntmps137;go_wp2_with fail;refine(LR _ ((Ext.refl w).alloc _)).mono ?_;rintro e w1 ⟨rfl,hq⟩;have x1:Ext w w1:=Ext.trans ((Ext.refl w).alloc _) hq;have S1:=uU (HS.ext x1);have cj:=S1.s j (by omega);have fj:=S1.f j (by omega);have hbs:bs<w1.heap.size:=S1.hb.2;clear hq;by_cases hm:(j:Int)∈L
 ·have E:decide ((j:Int)∈L)=true:=decide_eq_true hm;rw[E] at cj;clear E;go_wp2_with fail;go_ret;exact⟨v,L,rfl,S1.ext ((Ext.refl w1).alloc _),.inl ⟨hm,rfl⟩,Mfr.of_ext (x1.alloc _)⟩
 ·have E:decide ((j:Int)∈L)=false:=decide_eq_false hm;rw[E] at cj;clear E;go_wp2_with (at_builtin;refine wpList_append_lies _ rfl _ _ 32 rfl base 3 i0 (.int .i64 0) 1 8 Tryz.underlying32 hi0 hz0 hz1 hz2 rfl (by decide) v L.length (L.map iv) rfl (Sn.own2 (j:=j) S1 (((Ext.refl _).alloc _).alloc _)) _ 1 1 [.int .i64 j] rfl rfl ?c1 ?c2 (by decide) ?c3 ?c4 ?c5 _ rfl ?_)
  case c1=>
   intro k u hk
   match k,hk with
   | 0,hk=>simp at hk;subst hk;simp [Addr.add,go_sem]
  case c2=>intro u hu;simp at hu;subst hu;rfl
  case c3=>unfold maxLen;omega
  case c4=>omega
  case c5=>have:=x1.size;simp;omega
  intro g cap w2 hown hgrow hat hglt;obtain⟨q1,q2⟩:=Sn.add S1 hj hm (((Ext.refl _).alloc _).alloc _) hown hgrow (by simpa using hat);have FIN:=uU (And.intro q1 (Mfr.after x1 q2));clear q1 q2 hown hgrow hat;go_wp2_with fail;go_ret;exact⟨_,L++[(j:Int)],rfl,FIN.1,.inr ⟨hm,rfl⟩,FIN.2⟩
def a1h(p:Nat->Bool)(f:Nat->Int)(k:Nat):List Int:=((List.range k).filter p).map f
theorem a2o(p:Nat->Bool)(f:Nat->Int)(k:Nat)(h:p k=true):a1h p f (k+1)=a1h p f k++[f k]:=by
 simp [a1h,List.range_succ,List.filter_append,h]
theorem a2p(p:Nat->Bool)(f:Nat->Int)(k:Nat)(h:p k=false):a1h p f (k+1)=a1h p f k:=by
 simp [a1h,List.range_succ,List.filter_append,h]
theorem a1c(p:Nat->Bool)(f:Nat->Int)(k:Nat)(z:Int):z∈a1h p f k↔∃i,i<k/\p i=true/\f i=z:=by
 simp [a1h,and_assoc]
theorem a2q(p:Nat->Bool)(f:Nat->Int)(k:Nat):(a1h p f k).length<=k:=by
 unfold a1h;have:=List.length_filter_le p (List.range k)
 simpa using this
theorem a5d(p:Nat->Bool)(f:Nat->Int)(k:Nat):(a1h p f k).Nodup↔∀i j,i<j->j<k->p i=true->p j=true->f i≠f j:=by
 unfold a1h List.Nodup;rw[List.pairwise_map,List.pairwise_filter,List.pairwise_iff_getElem];constructor
 ·intro h i j hij hj pi pj;have:=h i j (by simp;omega) (by simpa using hj) hij;simp at this;exact this pi pj
 ·intro h i j hi hj hij;simp;intro pi pj;exact h i j hij (by simpa using hj) pi pj
def a5x(i:Nat):Int:=(i:Int)
theorem a9a(p:Nat->Bool)(k:Nat):(a1h p a5x k).Nodup:=by
 rw[a5d];intro i j h _ _ _ e;unfold a5x at e;omega
def yK(x:Hp)(s:Int)(i:Nat):Bool:=(x.c i).st == s
def c0p(x:Hp)(i:Nat):Int:=(x.c i).born
def toOf(x:Hp)(i:Nat):Int:=(x.c i).to
def a8b(x:Hp)(k:Nat):List Int:=a1h (yK x 1) (c0p x) k
def a5e(x:Hp)(k:Nat):List Int:=a1h (yK x 2) (toOf x) k
def a7w(x:Hp)(k:Nat):List Int:=a1h (yK x 0) a5x k
theorem c3y(x:Hp)(h:∀i,i<x.A.length->cQ x i):b7m x↔(a8b x x.A.length).Nodup/\(a5e x x.A.length).Nodup:=by
 unfold a8b a5e;rw[a5d,a5d];constructor
 ·intro a;refine⟨λi j hij hj pi pj e=>?_,λi j hij hj pi pj e=>?_⟩
  ·simp [yK] at pi pj;unfold c0p at e;refine a j hj (by omega) i hij ⟨by omega,e,?_⟩;have h1:=h i (by omega);have h2:=h j hj;unfold cQ a2k at h1 h2;omega
  ·simp [yK] at pi pj;unfold toOf at e;refine a j hj (by omega) i hij ⟨by omega,?_,e⟩;have h1:=h i (by omega);have h2:=h j hj;unfold cQ eX yW at h1 h2;omega
 ·intro⟨hb,ht⟩ i hi hs k hk ⟨e1,e2,e3⟩;have h1:=h i hi;unfold cQ at h1;rcases h1 with h1 | h1 | h1
  ·exact hs h1.1
  ·exact ht k i hk hi (by simp [yK];omega) (by simp [yK];omega) e3
  ·exact hb k i hk hi (by simp [yK];omega) (by simp [yK];omega) e2
theorem b7p{A B:List Int}(ha:A.Nodup)(hs:∀z,z∈A->z∈B)(hl:B.length<=A.length):A.Perm B:=by
 induction A generalizing B with
 | nil=>cases B with
  | nil=>exact List.Perm.refl _
  | cons _ _=>simp at hl
 | cons a A ih=>
  rw[List.nodup_cons] at ha;have hm:a∈B:=hs a List.mem_cons_self;have hB:=List.perm_cons_erase hm;have hlen:(B.erase a).length=B.length-1:=List.length_erase_of_mem hm
  have h2:=ih (B:=B.erase a) ha.2 (λz hz=>by
   have:z≠a:=λe=>ha.1 (e ▸ hz)
   exact(List.mem_erase_of_ne this).2 (hs z (List.mem_cons_of_mem _ hz))) (by rw[hlen];simp at hl;omega)
  exact(h2.cons a).trans hB.symm
def a5y(x:Hp)(i:Nat):Bool:=(x.c i).J == 1
def a5r(x:Hp)(k:Nat):List Int:=a1h (a5y x) a5x k
def a3s(x:Hp)(i:Nat):Prop:=uD x\/(x.E=3/\x.I<=i)
def R5b(x:Hp):Prop:=
 (∀i,i<x.A.length->(x.c i).J=2->a3s x i)/\(¬uD x->(a5r x x.A.length).length=0)/\x.D.length=(a5r x x.A.length).length/\
 (∀g,g∈x.D->(0<=g/\g<x.A.length)/\(x.c g.toNat).J=1)/\x.D.Nodup
theorem a8c(x:Hp):R5 x↔R5b x:=by
 constructor
 ·intro⟨h1,h2,h3⟩
  have hc:∀g,g∈x.D->(0<=g/\g<x.A.length)/\(x.c g.toNat).J=1:=λg hg=>by
   have hr:=h3 g hg;refine⟨hr,?_⟩;have ho:=h2 g.toNat (by omega);by_cases e:(x.c g.toNat).J=1
   ·exact e
   ·have:=ho.2.1 e;unfold cnt at this;rw[Int.toNat_of_nonneg hr.1] at this;have:=List.count_pos_iff.2 hg;omega
  have hp:x.D.Perm (a5r x x.A.length):=by
   rw[List.perm_iff_count];intro z;by_cases hz:z∈x.D
   ·have hr:=hc z hz;have e1:=(h2 z.toNat (by omega)).1 hr.2;unfold cnt at e1;rw[Int.toNat_of_nonneg hr.1.1] at e1;rw[e1];have hm:z∈a5r x x.A.length:=(a1c _ _ _ _).2 ⟨z.toNat,by omega,by simp [a5y,hr.2],by unfold a5x;omega⟩;have:=(a9a (a5y x) x.A.length);rw[List.nodup_iff_count] at this;have h4:=this z;have h5:=List.count_pos_iff.2 hm;unfold a5r at h5 ⊢;omega
   ·rw[List.count_eq_zero.2 hz]
    symm
    rw[List.count_eq_zero];intro hm;obtain⟨i,hi,pi,e⟩:=(a1c _ _ _ _).1 hm;have:=(h2 i hi).1 (by simpa [a5y] using pi);have:=List.count_pos_iff.1 (show 0<List.count (i:Int) x.D by unfold cnt at this;omega);unfold a5x at e;rw[e] at this;exact hz this
  refine⟨λi hi hb=>(h2 i hi).2.2 hb,λhn=>by rw[<-hp.length_eq];exact h1 hn,hp.length_eq,hc,?_⟩;rw[hp.nodup_iff];exact a9a _ _
 ·intro⟨h1,h2,h3,h4,h5⟩
  have hp:x.D.Perm (a5r x x.A.length):=b7p h5 (λz hz=>by
   have hr:=h4 z hz;exact(a1c _ _ _ _).2 ⟨z.toNat,by omega,by simp [a5y,hr.2],by unfold a5x;omega⟩) (by omega)
  refine⟨λhn=>by rw[h3];exact h2 hn,λi hi=>⟨λe=>?_,λe=>?_,λe=>h1 i hi e⟩,λg hg=>(h4 g hg).1⟩
  ·have hm:(i:Int)∈x.D:=hp.mem_iff.2 ((a1c _ _ _ _).2 ⟨i,hi,by simp [a5y,e],rfl⟩);have h6:=List.count_pos_iff.2 hm;rw[List.nodup_iff_count] at h5;have:=h5 (i:Int);unfold cnt;omega
  ·unfold cnt;rw[List.count_eq_zero];intro hm;have:=(h4 _ hm).2;simp at this;exact e this
def a5s(x:Hp)(i:Nat):Bool:=((x.c i).st == 1) && (((x.c i).U == 1) || ((x.c i).U == 2))
theorem b4v:a5s x i=true↔(x.c i).st=1/\cU (x.c i):=by simp [a5s,cU]
def a5t(x:Hp)(k:Nat):List Int:=a1h (a5s x) a5x k
structure Rw1(w:World)(base:Nat)(v:Value)(M:List Int):Prop where
 own:w.ownsRow base 3 1 v M.length (M.map iv)
theorem Rw1.ext(h:Rw1 w base v M)(e:Ext w w'):Rw1 w' base v M:=⟨uN h.own (λk hk=>e.block k (h.own.lt k hk).2)⟩
theorem Rw1.cell(h:Rw1 w base (.slice (some ⟨g,0,none⟩) n cap) M)(i:Nat)(hi:i<M.length):w.cell? ⟨g,i,none⟩=some (iv (it M i))/\w.frozen? ⟨g,i,none⟩=false/\n=M.length:=by
 rcases h.own.2 with⟨h0,_⟩ | ⟨g',cap',cur,h0,hb,hg,hr⟩
 ·cases h0
 ·cases h0;have:=World.ownsRow.cellAt (w:=w) (base:=base) (e:=3) (size:=1) (g:=g) (n:=M.length) (cap:=cap) (xs:=M.map iv) h.own i (by omega);exact⟨by rw[this];simp [it,hi],World.ownsRow.frozenAt (w:=w) (base:=base) (e:=3) (size:=1) (g:=g) (n:=M.length) (cap:=cap) (xs:=M.map iv) h.own i,rfl⟩
theorem Rw1.base_le(h:Rw1 w base (.slice (some ⟨g,0,none⟩) n cap) M):base<=g/\g<w.heap.size:=h.own.lt g rfl
theorem Rw1.swap(h:Rw1 w base (.slice (some ⟨g,0,none⟩) n cap) M)(i j:Nat):
  Rw1 ((w.setCell ⟨g,i,none⟩ (iv (it M j))).setCell ⟨g,j,none⟩ (iv (it M i))) base (.slice (some ⟨g,0,none⟩) n cap) (swp M i j):=by
 have hl:n=M.length:=by
  rcases h.own.2 with⟨h0,_⟩ | ⟨g',cap',cur,h0,_⟩
  ·cases h0
  ·cases h0;rfl
 subst hl;obtain⟨s1,_⟩:=World.ownsRow.stored h.own i (iv (it M j));obtain⟨s2,_⟩:=World.ownsRow.stored s1 j (iv (it M i));refine⟨?_⟩;rw[a0t];unfold swp;rw[List.map_set,List.map_set];exact s2
theorem Rw1.ext_of{o:Obj}(h:Rw1 w base v M)(hW:W=w.alloc o)(hown:w2.ownsRow base 3 1 (.slice (some ⟨g,0,none⟩) (M.length+1) cap) (M.length+1) (M.map iv++[iv z]))(hg:W.grownBy w2 v.ownBlock)(ea:Ext a w)(hb:a.heap.size<=base):
  Rw1 w2 base (.slice (some ⟨g,0,none⟩) (M.length+1) cap) (M++[z])/\Ext a w2/\w.heap.size<=w2.heap.size:=by
 subst hW;have hs:w.heap.size+1<=w2.heap.size:=by have:=hg.size;simpa using this
 refine⟨⟨by simpa using hown⟩,?_,by omega⟩;refine Below.trans ea ⟨hg.os,hg.tape,hg.output,by omega,λk hk=>?_⟩;have hkw:k<w.heap.size:=Nat.lt_of_lt_of_le hk ea.size;rw[hg.block k (by simp;omega) (λe=>by have:=(h.own.lt k e.symm).1;omega),Below.heap_alloc _ o k hkw]
def tgt(x:Hp)(y:Wd):Nat:=zH x y.a.toNat
def uY(x:Hp)(i:Nat):Prop:=∀P:Nat->Prop,(∀k (h:k<x.B.length),x.B[k].k=2->P (tgt x x.B[k]))->(∀i,i<x.A.length->(x.c i).st=1->cU (x.c i)->P i)->
 (∀j p,P j->p<(x.c j).F.length->((x.c j).p p).key.k=2->P (tgt x ((x.c j).p p).key))->(∀j p,P j->p<(x.c j).F.length->((x.c j).p p).val.k=2->P (tgt x ((x.c j).p p).val))->P i
theorem uY.reg(k:Nat)(h:k<x.B.length)(hk:x.B[k].k=2):uY x (tgt x x.B[k]):=λ_ a _ _ _=>a k h hk
theorem uY.U(i:Nat)(hi:i<x.A.length)(hs:(x.c i).st=1)(h:cU (x.c i)):uY x i:=λ_ _ b _ _=>b i hi hs h
theorem uY.key(j p:Nat)(h:uY x j)(hp:p<(x.c j).F.length)(hk:((x.c j).p p).key.k=2):uY x (tgt x ((x.c j).p p).key):=λP a b c d=>c j p (h P a b c d) hp hk
theorem uY.val(j p:Nat)(h:uY x j)(hp:p<(x.c j).F.length)(hk:((x.c j).p p).val.k=2):uY x (tgt x ((x.c j).p p).val):=λP a b c d=>d j p (h P a b c d) hp hk
def tK(x:Hp)(i:Nat):Prop:=i<x.A.length/\(x.c i).st=1/\¬hY x i
def a1w(x:Hp)(y:Wd):Prop:=y.k=2->y.n=0/\0<=y.a/\y.a<x.A.length/\((x.c y.a.toNat).st=2->0<=(x.c y.a.toNat).to)/\tK x (tgt x y)
theorem cL.may{m:Prop}(h:cL x y m)(r2:R2 x):a1w x y:=λhk=>by
 have hf:=h.1;unfold uE at hf;have hr:y.n=0/\0<=y.a/\y.a<x.A.length:=by omega
 refine⟨hr.1,hr.2.1,hr.2.2,λh2=>?_,?_⟩
 ·have:=r2.1 y.a.toNat (by omega);unfold cQ eX at this;omega
 ·rcases h.2 hk with⟨h1,_⟩ | ⟨h1,h3⟩
  ·have hc:=r2.1 y.a.toNat (by omega);unfold cQ at hc;rcases hc with hc | hc | hc
   ·omega
   ·have hm:=hc.2;unfold eX at hm;have e:tgt x y=(x.c y.a.toNat).to.toNat:=by unfold tgt zH;rw[if_pos (by simp [h1])]
    rw[e];exact⟨by omega,hm.2.2.2.2.1,λd=>by have:=d.1;omega⟩
   ·omega
  ·have e:tgt x y=y.a.toNat:=by unfold tgt zH;rw[if_neg (by simp [h1])]
   rw[e];exact⟨by omega,h1,h3⟩
theorem a7c(r2:R2 x)(r4:R4 x)(k:Nat)(h:k<x.B.length):a1w x x.B[k]:=(r4.1 k h).may r2
theorem a1u(r2:R2 x)(r4:R4 x)(j p:Nat)(hj:tK x j)(hp:p<(x.c j).F.length):a1w x ((x.c j).p p).key/\a1w x ((x.c j).p p).val:=by
 have:=((r4.2 j hj.1).2 p hp).2 hj.2.2;exact⟨this.1.may r2,this.2.may r2⟩
theorem a4k(r4:R4 x)(i:Nat)(hi:i<x.A.length)(hs:(x.c i).st=1)(h:cU (x.c i)):tK x i:=⟨hi,hs,λd=>(r4.2 i hi).1 ⟨d,h⟩⟩
theorem uY.good(r2:R2 x)(r4:R4 x)(h:uY x i):tK x i:=by
 exact h (tK x) (λk h hk=>(a7c r2 r4 k h hk).2.2.2.2) (λi hi hs h=>a4k r4 i hi hs h) (λj p ih hp hk=>((a1u r2 r4 j p ih hp).1 hk).2.2.2.2) (λj p ih hp hk=>((a1u r2 r4 j p ih hp).2 hk).2.2.2.2)
def Add(x:Hp)(y:Wd)(L L':List Int):Prop:=(y.k≠2/\L'=L)\/(y.k=2/\(((tgt x y:Int)∈L/\L'=L)\/(¬(tgt x y:Int)∈L/\L'=L++[(tgt x y:Int)])))
theorem Add.pre(h:Add x y L L'):∃R,L'=L++R:=by
 rcases h with⟨_,e⟩ | ⟨_,⟨_,e⟩ | ⟨_,e⟩⟩
 ·exact⟨[],by simp [e]⟩
 ·exact⟨[],by simp [e]⟩
 ·exact⟨_,e⟩
theorem Add.sub(h:Add x y L L')(hz:z∈L):z∈L':=by
 obtain⟨R,e⟩:=h.pre;rw[e];exact List.mem_append_left _ hz
theorem Add.has(h:Add x y L L')(hk:y.k=2):(tgt x y:Int)∈L':=by
 rcases h with⟨n,_⟩ | ⟨_,⟨m,e⟩ | ⟨_,e⟩⟩
 ·exact(n hk).elim
 ·rw[e];exact m
 ·rw[e];simp
theorem Add.new(h:Add x y L L')(hz:z∈L'):z∈L\/(y.k=2/\z=(tgt x y:Int)):=by
 rcases h with⟨_,e⟩ | ⟨k,⟨_,e⟩ | ⟨_,e⟩⟩
 ·rw[e] at hz;exact .inl hz
 ·rw[e] at hz;exact .inl hz
 ·rw[e] at hz;rcases List.mem_append.1 hz with q | q
  ·exact .inl q
  ·exact .inr ⟨k,by simpa using q⟩
theorem a0v(x:Hp)(y:Wd)(b base bs:Nat)(v:Value)(L:List Int)(w:World)(h:HAt w b x ar kr ac kc ag kg)(hy:a1w x y)(hs:Sn w base bs x.A.length v L)(hbw:base<=w.heap.size)(hn8:x.A.length<=8000):
  Calls Tryz.prog 137 #[.pointer (some ⟨b,0,none⟩),.slice (some ⟨bs,0,none⟩) x.A.length x.A.length,v,y.v] w λe w'=>∃v' L',Hid (e=.returned v')/\Sn w' base bs x.A.length v' L'/\Hid (Add x y L L')/\Mfr bs v v' w w':=by
 cases k2:(y.k == 2)
 ·exact(c3w y b base bs x.A.length v L w hs k2).mono λ_ _ ⟨he,hs',hx⟩=>⟨v,L,he,hs',.inl ⟨by simpa using k2,rfl⟩,Mfr.of_ext hx⟩
 ·have hk:y.k=2:=by simpa using k2
  obtain⟨n0,a0,a1,ht,hg⟩:=hy hk;obtain⟨i,hi⟩:∃i:Nat,y.a=(i:Int):=⟨y.a.toNat,by omega⟩;have et:tgt x y=zH x i:=by unfold tgt;rw[hi];simp
  have ev:(.agg #[iv 2,iv 0,iv i]:Value)=y.v:=by rw[<-hi,<-n0,<-hk]
  rw[et] at hg;have ei:y.a.toNat=i:=by omega
  rw[ei] at ht;have:=c3x x b i base bs v L w h (by omega) ht hg.1 hs hbw hn8;rw[ev] at this;exact this.mono λ_ _ ⟨v',L',he,hs',ha,hx⟩=>⟨v',L',he,hs',.inr ⟨hk,by rw[et];exact uH ha⟩,hx⟩
theorem c0q(hr:∀z,z∈L->∃i:Nat,z=(i:Int)/\uY x i)(h1:∀k (h:k<x.B.length),x.B[k].k=2->(tgt x x.B[k]:Int)∈L)(h2:∀i,i<x.A.length->(x.c i).st=1->cU (x.c i)->(i:Int)∈L)
  (h3:∀j:Nat,(j:Int)∈L->∀p,p<(x.c j).F.length->(((x.c j).p p).key.k=2->(tgt x ((x.c j).p p).key:Int)∈L)/\(((x.c j).p p).val.k=2->(tgt x ((x.c j).p p).val:Int)∈L)) (i:Nat):(i:Int)∈L↔uY x i:=by
 constructor
 ·intro h;obtain⟨j,e,hj⟩:=hr _ h;have:i=j:=by omega
  rw[this];exact hj
 ·intro h;exact h (λi=>(i:Int)∈L) h1 h2 (λj p ih hp hk=>(h3 j ih p hp).1 hk) (λj p ih hp hk=>(h3 j ih p hp).2 hk)
theorem c3z:(Tryz.prog.info? 4).map (λi=>(i.zero,i.size,i.bytes))=some (some (.bool false),1,1):=by kernel_rfl
theorem b6b(n:Nat)(hn:n<=1048576)(w:World):∃z,(Instr.makeSlice 65 (.int .i64 n) (.int .i64 n)).run Tryz.prog w=.ok (.slice (some ⟨w.heap.size,0,none⟩) n n) (w.alloc (.cells z 4))/\z=madeCells #[.bool false] n:=by
 obtain⟨i0,hi,hz0,hz1,hz2⟩:=info_parts c3z;have h:=run_make (P:=Tryz.prog) w 65 4 i0 _ Tryz.underlying65 hi hz0 .i64 .i64 n n (by omega) (Int.le_refl _) (by rw[hz2];omega) (by omega);rw[hz1] at h;simp only [Int.toNat_natCast,Nat.mul_one] at h;exact⟨_,h,rfl⟩
theorem b7q(x:Hp)(b:Nat)(w:World){ar:Option Addr}{kr:Nat}{ac:Option Addr}{kc:Nat}{ag:Option Addr}{kg:Nat}(h:HAt w b x ar kr ac kc ag kg)(hn8:x.A.length<=8000):
  Calls Tryz.prog 135 #[.pointer (some ⟨b,0,none⟩)] w λe w'=>∃v M,Hid (e=.returned v)/\Rw1 w' w.heap.size v M/\M.Perm (a5t x x.A.length)/\Ext w w':=by
 obtain⟨i0,hi0,hz0,hz1,hz2⟩:=info_parts b7o;have c4:=h.c4;have hb:b<w.heap.size:=uL c4;have HH:=uU h;clear h;go_enter Tryz.func135,Tryz.ntmps135;go_wp2_with fail;go_loopw [3,14] (λv i wr=>∃(k:Nat) (M:List Int),k<=x.A.length/\i=.int .i64 k/\Rw1 wr w.heap.size v M/\Hid (M.Perm (a5t x k))/\Ext w wr) (λ_ i _=>x.A.length-(intOf i).toNat)
 case atStart=>exact⟨0,[],Nat.zero_le _,rfl,⟨World.ownsRow_nil _ _ _ _⟩,List.Perm.refl _,Ext.refl _⟩
 case round=>
  clear c4;obtain⟨k,M,hk,rfl,hrw,hp,hbl⟩:=hrel;by_cases hlt:k<x.A.length
  ·have hh:=HH.ext hbl;obtain⟨b',o,ap,kp,rfl,p0,p1,p2,p3,p4,p5,p6,p7,lp,P⟩:=hh.cell k hlt;have hb':b'<wr.heap.size:=uL p0;have HRW:=uU hrw;have hk0:(0:Int)<=(k:Int):=by omega
   have hk1:(k:Int)<(x.A.length:Int):=by omega
   have xa:=hbl.alloc (.cells #[iv (x.c k).st,iv (x.c k).kind,iv (x.c k).T,iv (x.c k).U,iv (x.c k).born,iv (x.c k).J,iv (x.c k).to,.slice ap (x.c k).F.length kp] 62);clear P hh hrw;have hlenM:M.length<=k:=by have:=hp.length_eq;have:=a2q (a5s x) a5x k;unfold a5t at *;omega
   have go_no:a5s x k=false->Hid (M.Perm (a5t x (k+1))):=λq=>by
    have:=uH hp;unfold a5t at *;rw[a2p _ _ _ q];exact this
   have GN:=uU go_no;clear go_no;cases t1:((x.c k).st == 1)
   ·have t1b:((x.c k).st != 1)=true:=by simpa using t1
    have P2:=uH GN (by simp [a5s,t1]);go_wp2_with fail;go_roundw
    case rel=>exact⟨k+1,M,by omega,by go_num,HRW.ext ((Ext.refl wr).alloc _),P2,xa⟩
    case measure=>simp [intOf];omega
   ·have t1b:((x.c k).st != 1)=false:=by simpa using t1
    cases t2:((x.c k).U == 1)
    ·have t2b:((x.c k).U != 1)=true:=by simpa using t2
     cases t3:((x.c k).U == 2)
     ·have t3b:((x.c k).U != 2)=true:=by simpa using t3
      have P2:=uH GN (by simp [a5s,t2,t3]);go_wp2_with fail;go_roundw
      case rel=>exact⟨k+1,M,by omega,by go_num,HRW.ext ((Ext.refl wr).alloc _),P2,xa⟩
      case measure=>simp [intOf];omega
     ·have t3b:((x.c k).U != 2)=false:=by simpa using t3
      have QW:=uU (show a5s x k=true by simp [a5s,t1,t3]);go_wp2_with (at_builtin;refine wpList_append_lies _ rfl _ _ 32 rfl w.heap.size 3 i0 (.int .i64 0) 1 8 Tryz.underlying32 hi0 hz0 hz1 hz2 rfl (by decide) _ M.length (M.map iv) rfl ((HRW.own.alloc _).alloc _) _ 1 1 [.int .i64 k] rfl rfl ?c1 ?c2 (by decide) ?c3 ?c4 ?c5 _ rfl ?_)
      case c1=>
       intro q u hk
       match q,hk with
       | 0,hk=>simp at hk;subst hk;simp [Addr.add,go_sem]
      case c2=>intro u hu;simp at hu;subst hu;rfl
      case c3=>unfold maxLen;omega
      case c4=>omega
      case c5=>have:=hbl.size;simp;omega
      intro g cap w2 hown hgrow hat hglt;obtain⟨R1,E1,S1⟩:=Rw1.ext_of (HRW.ext ((Ext.refl wr).alloc _)) rfl hown hgrow xa (Nat.le_refl _)
      have PW:=uU (show(M++[(k:Int)]).Perm (a5t x (k+1)) by
       have:=uH hp;unfold a5t at *;rw[a2o _ _ _ (uH QW)];exact this.append_right _)
      have Q1:=uU R1;clear R1 hown hgrow hat p0 p1 p2 p3 p4 p5 p6 p7 xa S1 HRW hp GN;go_wp2_with fail;go_loopw [6] (λsk wi=>∃(j:Nat) (N:List Int),j<N.length/\sk=.int .i64 j/\N.length=M.length+1/\Rw1 wi w.heap.size (.slice (some ⟨g,0,none⟩) (M.length+1) cap) N/\Hid (N.Perm (a5t x (k+1)))/\Ext w wi) (λsk _=>(intOf sk).toNat)
      case atStart=>exact⟨M.length,M++[(k:Int)],by simp,by go_num,by simp,Q1,PW,E1⟩
      case round=>
       clear Q1 PW E1 hbl;obtain⟨j,N,hj,rfl,hNl,hrw,hp,hbl⟩:=hrel;have HRW:=uU hrw;have hh:=HH.ext hbl;have d4:=hh.c4;have EXIT:=uU (And.intro HRW (And.intro hp hbl));cases j with
       | zero=>
        clear hrw hh;go_wp2_with fail;go_quiet (fail);go_wp2_with fail;go_roundw
        case rel=>exact⟨k+1,N,by omega,by go_num,(by have q:=uH HRW;rw[<-hNl] at q ⊢;exact q.ext ((Ext.refl _).drewN _)),hp,hbl.drewN _⟩
        case measure=>simp [intOf];omega
       | succ j=>
        obtain⟨a1,a2,a3⟩:=hrw.cell j (by omega);obtain⟨b1,b2,b3⟩:=hrw.cell (j+1) (by omega)
        have rng:∀z,z∈N->∃q:Nat,z=(q:Int)/\q<x.A.length:=λz hz=>by
         obtain⟨q,hq,_,e⟩:=(a1c _ _ _ _).1 (hp.mem_iff.1 hz);exact⟨q,e.symm,by omega⟩
        obtain⟨ia,ea,hia⟩:=rng _ (a2n N j (by omega));obtain⟨ib,eb,hib⟩:=rng _ (a2n N (j+1) hj);obtain⟨b1',o1,ap1,kp1,e1,CA⟩:=hh.cell ia hia;cases e1;obtain⟨b2',o2,ap2,kp2,e2,CB⟩:=hh.cell ib hib;cases e2;have pa:=CA.p4;have pb:=CB.p4;have SW:=uU (hrw.swap j (j+1));rw[ea,eb] at SW;have hgl:=hrw.base_le;have PSW:=uU ((a3q N j (j+1) (by omega) hj).trans hp);rw[ea] at a1;rw[eb] at b1;have j0:(0:Int)<=(j:Int):=by omega
        have j1:(j:Int)<(M.length:Int)+1:=by omega
        have j2:(j:Int)+1<(M.length:Int)+1:=by omega
        have j3:(0:Int)<=(j:Int)+1:=by omega
        have j4:((j:Int)+1).toNat=j+1:=by omega
        have j5:(0:Int)<(j:Int)+1:=by omega
        have q0:(0:Int)<=(ia:Int):=by omega
        have q1:(ia:Int)<(x.A.length:Int):=by omega
        have q2:(0:Int)<=(ib:Int):=by omega
        have q3:(ib:Int)<(x.A.length:Int):=by omega
        have hmk:M.length<=8000:=by omega
        clear hrw hh CA CB rng a3 b3 ea eb;cases tb:decide ((x.c ib).born<(x.c ia).born)
        ·go_wp2_with fail;go_quiet (fail);go_wp2_with fail;go_roundw
         case rel=>exact⟨k+1,N,by omega,by go_num,(by have q:=uH HRW;rw[<-hNl] at q ⊢;exact q.ext ((Ext.refl _).drewN _)),hp,hbl.drewN _⟩
         case measure=>simp [intOf];omega
        ·have tb2:=of_decide_eq_true tb;clear tb;go_wp2_with fail;go_quiet (fail);go_wp2_with fail;go_roundw
         case rel=>exact⟨j,swp N j (j+1),by rw[a0t];omega,by go_num,by rw[a0t];omega,⟨uN SW.own (λq _=>rfl)⟩,PSW,((hbl.drewN _).setCell hgl.1 _).setCell hgl.1 _⟩
         case measure=>simp [intOf]
    ·have t2b:((x.c k).U != 1)=false:=by simpa using t2
     have QW:=uU (show a5s x k=true by simp [a5s,t1,t2]);go_wp2_with (at_builtin;refine wpList_append_lies _ rfl _ _ 32 rfl w.heap.size 3 i0 (.int .i64 0) 1 8 Tryz.underlying32 hi0 hz0 hz1 hz2 rfl (by decide) _ M.length (M.map iv) rfl ((HRW.own.alloc _).alloc _) _ 1 1 [.int .i64 k] rfl rfl ?c1 ?c2 (by decide) ?c3 ?c4 ?c5 _ rfl ?_)
     case c1=>
      intro q u hk
      match q,hk with
      | 0,hk=>simp at hk;subst hk;simp [Addr.add,go_sem]
     case c2=>intro u hu;simp at hu;subst hu;rfl
     case c3=>unfold maxLen;omega
     case c4=>omega
     case c5=>have:=hbl.size;simp;omega
     intro g cap w2 hown hgrow hat hglt;obtain⟨R1,E1,S1⟩:=Rw1.ext_of (HRW.ext ((Ext.refl wr).alloc _)) rfl hown hgrow xa (Nat.le_refl _)
     have PW:=uU (show(M++[(k:Int)]).Perm (a5t x (k+1)) by
      have:=uH hp;unfold a5t at *;rw[a2o _ _ _ (uH QW)];exact this.append_right _)
     have Q1:=uU R1;clear R1 hown hgrow hat p0 p1 p2 p3 p4 p5 p6 p7 xa S1 HRW hp GN;go_wp2_with fail;go_loopw [6] (λsk wi=>∃(j:Nat) (N:List Int),j<N.length/\sk=.int .i64 j/\N.length=M.length+1/\Rw1 wi w.heap.size (.slice (some ⟨g,0,none⟩) (M.length+1) cap) N/\Hid (N.Perm (a5t x (k+1)))/\Ext w wi) (λsk _=>(intOf sk).toNat)
     case atStart=>exact⟨M.length,M++[(k:Int)],by simp,by go_num,by simp,Q1,PW,E1⟩
     case round=>
      clear Q1 PW E1 hbl;obtain⟨j,N,hj,rfl,hNl,hrw,hp,hbl⟩:=hrel;have HRW:=uU hrw;have hh:=HH.ext hbl;have d4:=hh.c4;have EXIT:=uU (And.intro HRW (And.intro hp hbl));cases j with
      | zero=>
       clear hrw hh;go_wp2_with fail;go_quiet (fail);go_wp2_with fail;go_roundw
       case rel=>exact⟨k+1,N,by omega,by go_num,(by have q:=uH HRW;rw[<-hNl] at q ⊢;exact q.ext ((Ext.refl _).drewN _)),hp,hbl.drewN _⟩
       case measure=>simp [intOf];omega
      | succ j=>
       obtain⟨a1,a2,a3⟩:=hrw.cell j (by omega);obtain⟨b1,b2,b3⟩:=hrw.cell (j+1) (by omega)
       have rng:∀z,z∈N->∃q:Nat,z=(q:Int)/\q<x.A.length:=λz hz=>by
        obtain⟨q,hq,_,e⟩:=(a1c _ _ _ _).1 (hp.mem_iff.1 hz);exact⟨q,e.symm,by omega⟩
       obtain⟨ia,ea,hia⟩:=rng _ (a2n N j (by omega));obtain⟨ib,eb,hib⟩:=rng _ (a2n N (j+1) hj);obtain⟨b1',o1,ap1,kp1,e1,CA⟩:=hh.cell ia hia;cases e1;obtain⟨b2',o2,ap2,kp2,e2,CB⟩:=hh.cell ib hib;cases e2;have pa:=CA.p4;have pb:=CB.p4;have SW:=uU (hrw.swap j (j+1));rw[ea,eb] at SW;have hgl:=hrw.base_le;have PSW:=uU ((a3q N j (j+1) (by omega) hj).trans hp);rw[ea] at a1;rw[eb] at b1;have j0:(0:Int)<=(j:Int):=by omega
       have j1:(j:Int)<(M.length:Int)+1:=by omega
       have j2:(j:Int)+1<(M.length:Int)+1:=by omega
       have j3:(0:Int)<=(j:Int)+1:=by omega
       have j4:((j:Int)+1).toNat=j+1:=by omega
       have j5:(0:Int)<(j:Int)+1:=by omega
       have q0:(0:Int)<=(ia:Int):=by omega
       have q1:(ia:Int)<(x.A.length:Int):=by omega
       have q2:(0:Int)<=(ib:Int):=by omega
       have q3:(ib:Int)<(x.A.length:Int):=by omega
       have hmk:M.length<=8000:=by omega
       clear hrw hh CA CB rng a3 b3 ea eb;cases tb:decide ((x.c ib).born<(x.c ia).born)
       ·go_wp2_with fail;go_quiet (fail);go_wp2_with fail;go_roundw
        case rel=>exact⟨k+1,N,by omega,by go_num,(by have q:=uH HRW;rw[<-hNl] at q ⊢;exact q.ext ((Ext.refl _).drewN _)),hp,hbl.drewN _⟩
        case measure=>simp [intOf];omega
       ·have tb2:=of_decide_eq_true tb;clear tb;go_wp2_with fail;go_quiet (fail);go_wp2_with fail;go_roundw
        case rel=>exact⟨j,swp N j (j+1),by rw[a0t];omega,by go_num,by rw[a0t];omega,⟨uN SW.own (λq _=>rfl)⟩,PSW,((hbl.drewN _).setCell hgl.1 _).setCell hgl.1 _⟩
        case measure=>simp [intOf]
  ·have hk2:k=x.A.length:=by omega
   subst hk2;have HRW:=uU hrw;clear hrw;go_wp2_with fail;go_ret;exact⟨_,M,rfl,HRW,hp,hbl⟩
theorem a7d(w:World)(z:Array Value)(m:Nat)(t:TypeId)(j:Nat)(hj:j<m):yN (w.alloc (.cells (madeCells z m) t)) w.heap.size j:=by
 have e:(w.alloc (.cells (madeCells z m) t)).heap[w.heap.size]?=some (.cells (madeCells z m) t):=by show(w.heap.push _)[w.heap.size]?=_;simp
 have hs:=size_madeCells z m;refine⟨⟨(madeCells z m)[j]'(by omega),?_⟩,?_⟩
 ·unfold World.cell?;rw[e];simp [hs,hj]
 ·unfold World.frozen?;rw[e];simp
theorem b2a{S:Nat->Prop}{g:Nat}(hg:S g):∀{vs:List Value} {a w1:World} {o:Nat},uZ S a w1->uZ S a (w1.setCells g o vs)
 | [],_,_,_,h=>h
 | _::r,_,_,_,h=>b2a hg (vs:=r) (h.setCell hg _)
theorem yU.mono2{α:Type}{p q:Nat->Nat->α->Prop}{sz:Nat}{xs:List α}(h:yU p sz v xs)(hpq:∀b o n c,v=.slice (some ⟨b,o,none⟩) n c->∀o' x,p b o' x->q b o' x):yU q sz v xs:=by
 obtain⟨ad,cap,hv,hl,hx⟩:=h;exact⟨ad,cap,hv,hl,λi hi=>by obtain⟨b,o,ha,hp⟩:=hx i hi;exact⟨b,o,ha,hpq b o _ _ (by rw[hv,ha]) _ _ hp⟩⟩
def Nf1(B:Nat)(w:World):Prop:=B<w.heap.size/\∀j,w.frozen? ⟨B,j,none⟩=false
theorem Nf1.ext(h:Nf1 B w)(e:Ext w w'):Nf1 B w':=⟨Nat.lt_of_lt_of_le h.1 e.size,λj=>by rw[(cD e).2 B j h.1];exact h.2 j⟩
theorem Nf1.set(h:Nf1 B w)(p:Addr)(u:Value):Nf1 B (w.setCell p u):=⟨by have:=h.1;simpa [World.setCell] using this,λj=>by rw[World.frozen?_setCell];exact h.2 j⟩
theorem Nf1.put{B g:Nat}:∀{vs:List Value} {w:World} {o:Nat},Nf1 B w->Nf1 B (w.setCells g o vs)
 | [],_,_,h=>h
 | _::r,_,_,h=>Nf1.put (vs:=r) (h.set _ _)
theorem Nf1.made(w:World)(z:Array Value)(m:Nat)(t:TypeId):Nf1 w.heap.size (w.alloc (.cells (madeCells z m) t)):=by
 refine⟨by simp,λj=>?_⟩;have e:(w.alloc (.cells (madeCells z m) t)).heap[w.heap.size]?=some (.cells (madeCells z m) t):=by show(w.heap.push _)[w.heap.size]?=_;simp
 unfold World.frozen?;rw[e];simp
theorem c7e{S:Nat->Prop}(h:uZ S w w'){xs:List Pr}(hv:∀b o n c,v=.slice (some ⟨b,o,none⟩) n c->¬S b)(hx:SlP w v xs):SlP w' v xs:=
 yU.mono2 hx λb o n c e _ _ hp=>⟨h.keep (hv b o n c e) hp.1,h.keep (hv b o n c e) hp.2.1,h.keep (hv b o n c e) hp.2.2.1,h.keep (hv b o n c e) hp.2.2.2.1,h.keep (hv b o n c e) hp.2.2.2.2.1,h.keep (hv b o n c e) hp.2.2.2.2.2⟩
theorem b4w:(Tryz.prog.info? 152).map (λi=>(i.zero,i.size,i.bytes))=some (some (.agg #[iv 0,iv 0,iv 0]),3,24):=by kernel_rfl
theorem a4m:(Tryz.prog.info? 154).map (λi=>(i.zero,i.size,i.bytes))=some (some (.agg #[iv 0,iv 0,iv 0,iv 0,iv 0,iv 0]),6,48):=by kernel_rfl
theorem b2b:(Tryz.prog.info? 3).map (λi=>(i.zero,i.size,i.bytes))=some (some (iv 0),1,8):=by kernel_rfl
theorem mkInts(n:Nat)(hn:n<=1048576)(w:World):∃z,(Instr.makeSlice 32 (.int .i64 n) (.int .i64 n)).run Tryz.prog w=.ok (.slice (some ⟨w.heap.size,0,none⟩) n n) (w.alloc (.cells (madeCells z (n*1)) 3)):=by
 obtain⟨i0,hi,hz0,hz1,hz2⟩:=info_parts b2b;have h:=run_make (P:=Tryz.prog) w 32 3 i0 _ Tryz.underlying32 hi hz0 .i64 .i64 n n (by omega) (Int.le_refl _) (by rw[hz2];omega) (by omega);rw[hz1] at h;simp only [Int.toNat_natCast] at h;exact⟨_,h⟩
theorem a7e:(Tryz.prog.info? 62).map (λi=>(i.zero,i.size,i.bytes))=some (some (.agg #[iv 0,iv 0,iv 0,iv 0,iv 0,iv 0,iv 0,.slice none 0 0]),8,80):=by kernel_rfl
theorem mkCells(n:Nat)(hn:n<=1048576)(w:World):∃z,(Instr.makeSlice 31 (.int .i64 n) (.int .i64 n)).run Tryz.prog w=.ok (.slice (some ⟨w.heap.size,0,none⟩) n n) (w.alloc (.cells (madeCells z (n*8)) 62)):=by
 obtain⟨i0,hi,hz0,hz1,hz2⟩:=info_parts a7e;have h:=run_make (P:=Tryz.prog) w 31 62 i0 _ Tryz.underlying31 hi hz0 .i64 .i64 n n (by omega) (Int.le_refl _) (by rw[hz2];omega) (by omega);rw[hz1] at h;simp only [Int.toNat_natCast] at h;exact⟨_,h⟩
theorem Sn.V(w:World)(n:Nat)(t:TypeId):Sn (w.alloc (.cells (madeCells #[.bool false] n) t)) w.heap.size w.heap.size n (.slice none 0 0) []:=by
 have e:(w.alloc (.cells (madeCells #[.bool false] n) t)).heap[w.heap.size]?=some (.cells (madeCells #[.bool false] n) t):=heap_alloc_new w _;refine⟨⟨Nat.le_refl _,by simp⟩,λi hi=>?_,λi hi=>(a7d w _ n t i hi).2,World.ownsRow_nil _ _ _ _,by simp [Value.ownBlock],List.nodup_nil,λz hz=>by cases hz⟩;rw[cell_of_row _ w.heap.size i _ _ (0,0) e,<-Array.getElem?_toList,toList_madeCells_one];simp [hi]
def b1a(x:Hp)(L:List Int):Prop:=∀z,z∈L->∃i:Nat,z=(i:Int)/\uY x i
def a3t(x:Hp)(k:Nat)(L:List Int):Prop:=∀j (h:j<x.B.length),j<k->x.B[j].k=2->(tgt x x.B[j]:Int)∈L
def c2t(M:List Int)(k:Nat)(L:List Int):Prop:=∀j,j<k->it M j∈L
def a4b(x:Hp)(j k:Nat)(L:List Int):Prop:=∀p,p<k->(((x.c j).p p).key.k=2->(tgt x ((x.c j).p p).key:Int)∈L)/\(((x.c j).p p).val.k=2->(tgt x ((x.c j).p p).val:Int)∈L)
def a9b(x:Hp)(i:Nat)(L:List Int):Prop:=∀q,q<i->a4b x (it L q).toNat (x.c (it L q).toNat).F.length L
theorem b1a.add(h:b1a x L)(a:Add x y L L')(hy:y.k=2->uY x (tgt x y)):b1a x L':=λz hz=>by
 rcases a.new hz with q | ⟨k,e⟩
 ·exact h z q
 ·exact⟨_,e,hy k⟩
theorem a9z{R:List Int}{q:Nat}(h:q<L.length):it (L++R) q=it L q:=by unfold it;simp [List.getElem?_append_left h]
theorem a4b.mono{k:Nat}(h:a4b x j k L)(s:∀z,z∈L->z∈L'):a4b x j k L':=λp hp=>⟨λe=>s _ ((h p hp).1 e),λe=>s _ ((h p hp).2 e)⟩
theorem a9b.add(h:a9b x i L)(a:Add x y L L')(hi:i<=L.length):a9b x i L':=λq hq=>by
 obtain⟨R,e⟩:=a.pre;have hs:∀z,z∈L->z∈L':=λz hz=>a.sub hz
 have e2:it L' q=it L q:=by rw[e];exact a9z (by omega)
 rw[e2];exact(h q hq).mono hs
def WIn(x:Hp)(L:List Int):Prop:=∀i,i<x.A.length->(x.c i).st=1->cU (x.c i)->(i:Int)∈L
structure b0a(x:Hp)(i:Nat)(L:List Int):Prop where
 o:b1a x L
 r:a3t x x.B.length L
 w:WIn x L
 c:a9b x i L
theorem b0a.add(h:b0a x i L)(a:Add x y L L')(hi:i<=L.length)(hy:y.k=2->uY x (tgt x y)):b0a x i L':=
 ⟨h.o.add a hy,λj hj hk e=>a.sub (h.r j hj hk e),λj hj e1 e2=>a.sub (h.w j hj e1 e2),h.c.add a hi⟩
theorem b0a.done(h:b0a x L.length L):∀i:Nat,(i:Int)∈L↔uY x i:=
 c0q h.o (λk hk e=>h.r k hk hk e) h.w (λj hj=>by
  obtain⟨q,hq,e⟩:=List.getElem_of_mem hj;have:=h.c q hq;rw[<-a8x L q hq,e] at this;have t2:a4b x j (x.c j).F.length L:=by simpa using this
  exact t2)
theorem b0a.step(h:b0a x i L)(e:it L i=(j:Int))(hp:a4b x j (x.c j).F.length L):b0a x (i+1) L:=
 ⟨h.o,h.r,h.w,λq hq=>by
  by_cases k:q=i
  ·rw[k,e];simpa using hp
  ·exact h.c q (by omega)⟩
theorem Rw1.form(h:Rw1 w base v M):∃ad cap,v=.slice ad M.length cap/\(0<M.length->∃g,ad=some ⟨g,0,none⟩):=by
 rcases h.own.2 with⟨h1,h2⟩ | ⟨g,cap,cur,h1,_⟩
 ·exact⟨none,0,by rw[h1,h2],λh=>by omega⟩
 ·exact⟨_,_,h1,λ_=>⟨g,rfl⟩⟩
theorem Rw1.mfr(h:Rw1 w base vw M)(q:Mfr bs v v' w w')(h1:vw.ownBlock≠some bs)(h2:∀k,vw.ownBlock=some k->v.ownBlock≠some k):Rw1 w' base vw M:=
 ⟨uN h.own (λk hk=>q.block k (h.own.lt k hk).2 (λe=>h1 (e ▸ hk)) (h2 k hk))⟩
theorem c4a(h:Rw1 w base vw M)(q:Mfr bs v v' w w')(h2:∀k,vw.ownBlock=some k->v.ownBlock≠some k):∀k,vw.ownBlock=some k->v'.ownBlock≠some k:=λk hk=>by
 rcases q.own with e | ⟨g,e,hg⟩
 ·rw[e];exact h2 k hk
 ·rw[e];intro f;cases f;have:=(h.own.lt k hk).2;omega
theorem Sn.mext(h:Sn w a.heap.size bs n v L)(q:Mfr bs v v' w w')(e:Ext a w):Ext a w':=q.ext e h.hb.1 (λk hk=>(h.own.lt k hk).1)
theorem Sn.form(h:Sn w base bs n v L):∃ad cap,v=.slice ad L.length cap/\(0<L.length->∃g,ad=some ⟨g,0,none⟩):=(Rw1.mk h.own).form
theorem b7r(x:Hp)(b:Nat)(w:World)(h:HAt w b x ar kr ac kc ag kg)(r2:R2 x)(r4:R4 x)(hn8:x.A.length<=8000):
  Calls Tryz.prog 134 #[.pointer (some ⟨b,0,none⟩)] w λe w'=>∃v L,Hid (e=.returned (.tuple #[.slice (some ⟨w.heap.size,0,none⟩) x.A.length x.A.length,v]))/\Sn w' w.heap.size w.heap.size x.A.length v L/\Hid (∀i:Nat,(i:Int)∈L↔uY x i)/\Ext w w':=by
 have c4:=h.c4;have c3:=h.c3;have lr:=h.lr;have hb:b<w.heap.size:=uL c4;have HH:=uU h;have Q2:=uU r2;have Q4:=uU r4;clear h r2 r4;obtain⟨z,hmk,hz⟩:=b6b x.A.length (by omega) w;have S0:=uU (Sn.V w x.A.length 4);rw[<-hz] at S0;clear hz;go_enter Tryz.func134,Tryz.ntmps134;go_wp2_with fail;go_loopw [5,24] (λv i wr=>∃(k:Nat) (L:List Int),k<=x.B.length/\i=.int .i64 k/\Sn wr w.heap.size w.heap.size x.A.length v L/\Hid (b1a x L/\a3t x k L)/\Ext w wr) (λ_ i _=>x.B.length-(intOf i).toNat)
 case atStart=>exact⟨0,[],Nat.zero_le _,rfl,S0,⟨(λz hz=>by cases hz),λj _ hj=>by omega⟩,(Ext.refl w).alloc _⟩
 case round=>
  clear S0 hmk c4 c3;obtain⟨k,L,hk,rfl,hs,hinv,hbl⟩:=hrel;have HS:=uU hs;clear hs;by_cases hlt:k<x.B.length
  ·have hh:=HH.ext hbl;obtain⟨b',o,e1,p0,p1,p2⟩:=hh.R k hlt;have d3:=hh.c3;rw[e1] at d3;have hk0:(0:Int)<=(k:Int):=by omega
   have hk1:(k:Int)<(x.B.length:Int):=by omega
   have xa:=(Ext.refl wr).alloc (.cells #[iv x.B[k].k,iv x.B[k].n,iv x.B[k].a] 152);subst e1;clear hh;go_wp2_with fail;refine(a0v x x.B[k] b w.heap.size w.heap.size _ L _ (HH.ext (hbl.trans xa)) (a7c Q2 Q4 k hlt) (HS.ext xa) (hbl.trans xa).size hn8).mono ?_;rintro e w2 ⟨v',L',rfl,hs',ha,hm⟩
   have R:=uU (show Sn w2 w.heap.size w.heap.size x.A.length v' L'/\(b1a x L'/\a3t x (k+1) L')/\Ext w w2 from
    ⟨hs',⟨hinv.1.add ha (λe=>uY.reg k hlt e),λj hj hjk e=>by
     by_cases q:j=k
     ·subst q;exact ha.has e
     ·exact ha.sub (hinv.2 j hj (by omega) e)⟩,(HS.ext xa).mext hm (hbl.trans xa)⟩)
   clear hs' ha hm xa;go_wp2_with fail;go_roundw
   case rel=>exact⟨k+1,L',by omega,by go_num,R.1,R.2.1,R.2.2⟩
   case measure=>simp [intOf];omega
  ·have hk2:k=x.B.length:=by omega
   subst hk2;go_wp2_with fail;refine(b7q x b _ (HH.ext hbl) hn8).mono ?_;rintro e w3 ⟨vw,M,rfl,hrw,hpm,hq⟩;have hx3:=hbl.trans hq;obtain⟨BW,hBW⟩:∃n,n=wr.heap.size:=⟨_,rfl⟩;rw[<-hBW] at hrw;obtain⟨adw,capw,rfl,hgw⟩:=hrw.form;have hMl:M.length<=8000:=by have:=hpm.length_eq;have:=a2q (a5s x) a5x x.A.length;unfold a5t at *;omega
   have WM:=uU (show ∀j,j<M.length->∃q:Nat,it M j=(q:Int)/\q<x.A.length/\(x.c q).st=1/\cU (x.c q) from λj hj=>by
    obtain⟨q,hq1,hq2,e⟩:=(a1c _ _ _ _).1 (hpm.mem_iff.1 (a2n M j hj));exact⟨q,e.symm,hq1,b4v.1 hq2⟩)
   have WA:=uU (show ∀i,i<x.A.length->(x.c i).st=1->cU (x.c i)->(i:Int)∈M from λi hi h1 h2=>hpm.mem_iff.2 ((a1c _ _ _ _).2 ⟨i,hi,b4v.2 ⟨h1,h2⟩,rfl⟩));have S3:=uU (HS.ext hq)
   have AP:=uU (show ∀q,(Value.slice adw M.length capw).ownBlock=some q->¬(Value.ownBlock (Value.slice adw M.length capw)=some w.heap.size) from λq _ e=>by
    have:=(hrw.own.lt _ e).1;have:=HS.hb.2;omega)
   have AP2:=uU (λq (e:(Value.slice adw M.length capw).ownBlock=some q)=>(show ∀u:Value,Sn wr w.heap.size w.heap.size x.A.length u L->u.ownBlock≠some q from λu hu f=>by
    have:=(hu.own.lt q f).2;have:=(hrw.own.lt q e).1;omega))
   have APU:=uU (λq e=>uH AP2 q e _ HS);have RW:=uU hrw;have HI:=uU hinv;clear hrw hpm hq hlt hk AP2 hinv HS hBW;go_wp2_with fail;go_loopw [5,37] (λv i wx=>∃(k:Nat) (K:List Int),k<=M.length/\i=.int .i64 k/\Sn wx w.heap.size w.heap.size x.A.length v K/\Rw1 wx BW (.slice adw M.length capw) M/\Hid (∀q,(Value.slice adw M.length capw).ownBlock=some q->v.ownBlock≠some q)/\Hid (b1a x K/\a3t x x.B.length K/\c2t M k K)/\Ext w wx) (λ_ i _=>M.length-(intOf i).toNat)
   case atStart=>exact⟨0,L,Nat.zero_le _,rfl,S3,RW,APU,⟨HI.1,HI.2,λj hj=>by omega⟩,hx3⟩
   case round=>
    clear S3 RW APU HI hbl hx3;obtain⟨k,K,hk,rfl,hs,hrw,hap,hinv,hbl⟩:=hrel;have HS:=uU hs;have RW:=uU hrw;by_cases hlt:k<M.length
    ·obtain⟨g,rfl⟩:=hgw (by omega);obtain⟨a1,a2,a3⟩:=hrw.cell k hlt;obtain⟨q,eq,hq1,hq2,hq3⟩:=uH WM k hlt;rw[eq] at a1;have EQ:=uU eq;have hk0:(0:Int)<=(k:Int):=by omega
     have hk1:(k:Int)<(M.length:Int):=by omega
     have et:tgt x ⟨2,0,(q:Int)⟩=q:=by unfold tgt zH;simp [hq2]
     have MY:a1w x ⟨2,0,(q:Int)⟩:=λ_=>⟨rfl,by simp,by simpa using hq1,(λh=>by simp [hq2] at h),by rw[et];exact a4k Q4 q hq1 hq2 hq3⟩
     have MYH:=uU MY;have RQ:=uU (show uY x (tgt x ⟨2,0,(q:Int)⟩) by rw[et];exact uY.U q hq1 hq2 hq3);have ET:=uU et;have hvb:=uU (show(Value.slice (some ⟨g,0,none⟩) M.length capw).ownBlock≠some w.heap.size from λe=>uH AP _ rfl e);clear hs hrw a3 eq et MY hq2 hq3;go_wp2_with fail;refine(a0v x ⟨2,0,(q:Int)⟩ b w.heap.size w.heap.size _ K _ (HH.ext hbl) MYH HS hbl.size hn8).mono ?_;rintro e w2 ⟨v',L',rfl,hs',ha,hm⟩
     have R:=uU (show Sn w2 w.heap.size w.heap.size x.A.length v' L'/\Rw1 w2 BW (.slice (some ⟨g,0,none⟩) M.length capw) M/\(∀q,(Value.slice (some ⟨g,0,none⟩) M.length capw).ownBlock=some q->v'.ownBlock≠some q)/\(b1a x L'/\a3t x x.B.length L'/\c2t M (k+1) L')/\Ext w w2 from
      ⟨hs',RW.mfr hm hvb hap,c4a RW hm hap,⟨hinv.1.add ha (λ_=>uH RQ),λj hj hjk e=>ha.sub (hinv.2.1 j hj hjk e),λj hj=>by
       by_cases q2:j=k
       ·rw[q2,uH EQ];have:=ha.has rfl;rw[uH ET] at this;exact this
       ·exact ha.sub (hinv.2.2 j (by omega))⟩,HS.mext hm hbl⟩)
     clear hs' ha hm;go_wp2_with fail;go_roundw
     case rel=>exact⟨k+1,L',by omega,by go_num,R.1,R.2.1,R.2.2.1,R.2.2.2.1,R.2.2.2.2⟩
     case measure=>simp [intOf];omega
    ·have G0:=uU (show b0a x 0 K from⟨hinv.1,hinv.2.1,λi hi h1 h2=>by
      obtain⟨j,hj,e⟩:=List.getElem_of_mem (WA i hi h1 h2);rw[a8x M j hj] at e;rw[<-e];exact hinv.2.2 j (by omega),λq hq=>by omega⟩)
     clear hs hrw RW hap hinv WM WA AP hgw;go_wp2_with fail;go_loopw [5,10] (λv i wy=>∃(c:Nat) (J:List Int),c<=J.length/\i=.int .i64 c/\Sn wy w.heap.size w.heap.size x.A.length v J/\Hid (b0a x c J)/\Ext w wy) (λ_ i _=>x.A.length-(intOf i).toNat)
     case atStart=>exact⟨0,K,Nat.zero_le _,rfl,HS,G0,hbl⟩
     case round=>
      clear G0 HS hbl;obtain⟨c,J,hc,rfl,hs,hgo,hbl⟩:=hrel;have HS:=uU hs;obtain⟨ad,cap,rfl,hgl⟩:=hs.form;have hJn:=hs.len;by_cases hlt:c<J.length
      ·obtain⟨g,rfl⟩:=hgl (by omega);obtain⟨a1,a2,a3⟩:=(Rw1.mk hs.own).cell c hlt;obtain⟨j,ej,hrj⟩:=hgo.o _ (a2n J c hlt);rw[ej] at a1;have hgj:=hrj.good Q2 Q4;have hh:=HH.ext hbl;obtain⟨b',o,ap,kp,e1,C⟩:=HH.cell j hgj.1;have d4:=hh.c4;rw[e1] at d4;have p7:=hbl.keep C.p7;have lp:=C.lp;have HP:=uU C.P;have EJ:=uU ej;have RJ:=uU hrj;have GJ:=uU hgj;have hjn:=hgj.1;have c0:(0:Int)<=(c:Int):=by omega
       have c1:(c:Int)<(J.length:Int):=by omega
       have j0:(0:Int)<=(j:Int):=by omega
       have j1:(j:Int)<(x.A.length:Int):=by omega
       clear hs C hh e1 ej hrj hgj a3 a2;go_wp2_with fail;go_quiet (fail);go_wp2_with fail;go_loopw [5,66] (λv i wz=>∃(p:Nat) (T:List Int),p<=(x.c j).F.length/\i=.int .i64 p/\Sn wz w.heap.size w.heap.size x.A.length v T/\Hid (b0a x c T/\it T c=(j:Int)/\c<T.length/\a4b x j p T)/\Ext w wz) (λ_ i _=>(x.c j).F.length-(intOf i).toNat)
       case atStart=>exact⟨0,J,Nat.zero_le _,rfl,HS.ext ((Ext.refl _).drewN _),⟨hgo,EJ,hlt,λp hp=>by omega⟩,hbl.drewN _⟩
       case round=>
        clear HS hgo a1 d4 p7 hbl;obtain⟨p,T,hp,rfl,hs,hinv,hbl2⟩:=hrel;have HS:=uU hs;have hTn:=hs.len;by_cases hpl:p<(x.c j).F.length
        ·obtain⟨b2,o2,rfl,q0,q1,q2,q3,q4,q5⟩:=uH HP p hpl;have e0:=hbl2.keep q0;have e1:=hbl2.keep q1;have e2:=hbl2.keep q2;have e3:=hbl2.keep q3;have e4:=hbl2.keep q4;have e5:=hbl2.keep q5;have hb2:b2<wr.heap.size:=uL e0;clear q0 q1 q2 q3 q4 q5 hs;have hp0:(0:Int)<=(p:Int):=by omega
         have hp1:(p:Int)<((x.c j).F.length:Int):=by omega
         have xa:=(Ext.refl wr).alloc (.cells #[.int .i64 ((x.c j).p p).key.k,.int .i64 ((x.c j).p p).key.n,.int .i64 ((x.c j).p p).key.a,.int .i64 ((x.c j).p p).val.k,.int .i64 ((x.c j).p p).val.n,.int .i64 ((x.c j).p p).val.a] 154);have hMM:=uU (a1u Q2 Q4 j p GJ hpl);have wW:Ext w wr:=hbl2;go_wp2_with fail;refine(a0v x ((x.c j).p p).key b w.heap.size w.heap.size _ T _ (HH.ext (wW.trans xa)) hMM.1 (HS.ext xa) (wW.trans xa).size hn8).mono ?_;rintro e w5 ⟨v5,T5,rfl,hs5,ha5,hm5⟩;have x5:Ext w w5:=(HS.ext xa).mext hm5 (wW.trans xa);have hvl:=(HS.ext xa).own.lt;have u:=λ(o:Nat) (v:Value) (hc:(wr.alloc (.cells #[.int .i64 ((x.c j).p p).key.k,.int .i64 ((x.c j).p p).key.n,.int .i64 ((x.c j).p p).key.a,.int .i64 ((x.c j).p p).val.k,.int .i64 ((x.c j).p p).val.n,.int .i64 ((x.c j).p p).val.a] 154)).cell? ⟨wr.heap.size,o,none⟩=some v)=>(World.cell?_of_block (w':=w5) (a:=⟨wr.heap.size,o,none⟩) (hm5.block wr.heap.size (by simp) (by have:=HS.hb.2;omega) (λf=>by have:=(HS.own.lt _ f).2;omega))).trans hc
         have u3:=u 3 _ (by simp [go_sem];rfl);have u4:=u 4 _ (by simp [go_sem];rfl);have u5:=u 5 _ (by simp [go_sem];rfl);have hb5:wr.heap.size<w5.heap.size:=by have:=hm5.size;simp at this;omega
         have S5:=uU hs5;have A5:=uU ha5;clear u hm5 hs5 ha5 e0 e1 e2 e3 e4 e5 hvl xa;go_wp2_with fail;refine(a0v x ((x.c j).p p).val b w.heap.size w.heap.size _ T5 _ (HH.ext x5) hMM.2 S5 x5.size hn8).mono ?_;rintro e w6 ⟨v6,T6,rfl,hs6,ha6,hm6⟩
         have R:=uU (show Sn w6 w.heap.size w.heap.size x.A.length v6 T6/\(b0a x c T6/\it T6 c=(j:Int)/\c<T6.length/\a4b x j (p+1) T6)/\Ext w w6 by
          obtain⟨i1,i2,i3,i4⟩:=hinv;obtain⟨R5,r5⟩:=A5.pre;obtain⟨R6,r6⟩:=ha6.pre;have l5:T.length<=T5.length:=by rw[r5];simp
          have l6:T5.length<=T6.length:=by rw[r6];simp
          refine⟨hs6,⟨(i1.add A5 (by omega) (λe=>uY.key j p RJ hpl e)).add ha6 (by omega) (λe=>uY.val j p RJ hpl e),?_,by omega,λq hq=>?_⟩,S5.mext hm6 x5⟩
          ·rw[r6,a9z (by omega),r5,a9z i3];exact i2
          ·by_cases qe:q=p
           ·subst qe;exact⟨λe=>ha6.sub (A5.has e),λe=>ha6.has e⟩
           ·exact((i4.mono (λz hz=>ha6.sub (A5.sub hz))) q (by omega)))
         clear hs6 ha6 hm6;go_wp2_with fail;go_roundw
         case rel=>exact⟨p+1,T6,by omega,by go_num,R.1,R.2.1,R.2.2⟩
         case measure=>simp [intOf];omega
        ·have hpe:p=(x.c j).F.length:=by omega
         have R:=uU (show b0a x (c+1) T/\c+1<=T.length by
          obtain⟨i1,i2,i3,i4⟩:=hinv;rw[hpe] at i4;exact⟨i1.step i2 i4,i3⟩)
         clear hs hpe;go_wp2_with fail;go_roundw
         case rel=>exact⟨c+1,T,R.2,by go_num,HS,R.1,hbl2⟩
         case measure=>simp [intOf];omega
      ·have hce:c=J.length:=by omega
       have D:=uU (show ∀i:Nat,(i:Int)∈J↔uY x i by have:=uH hgo;rw[hce] at this;exact this.done);clear hs hce;go_wp2_with fail;go_ret2;exact⟨_,J,rfl,HS,D,hbl⟩
theorem eQ.all(h:eQ x 0):R1 x/\R2 x/\R3 x/\R4 x:=by
 unfold eQ at h;rcases h with h | h | h | h | h | h | h | h | h
 ·omega
 ·omega
 ·omega
 ·omega
 ·omega
 ·omega
 ·omega
 ·omega
 ·exact⟨h.1,h.2.1,h.2.2.1,h.2.2.2.1⟩
theorem eQ.n8(h:eQ x 0):x.A.length<=8000:=by have:=h.all.1.M;have:=h.all.1.A;omega
theorem eQ.p200(h:eQ x 0)(i:Nat)(hi:i<x.A.length):(x.c i).F.length<=200:=by
 rcases h.all.2.1.1 i hi with c | c | c
 ·have:=c.2.1.2.2.2.2.2;omega
 ·have:=c.2.1.2.2.2.2.2;omega
 ·exact c.2.2.2.2.2.2.2
def zY(x:Hp)(p:Nat->Bool):Nat->Nat
 | 0=>0
 | k+1=>zY x p k+(if p k=true then 1+(x.c k).F.length else 0)
theorem b7z{x:Hp}{p q:Nat->Bool}(h:∀i,p i=q i)(k:Nat):zY x p k=zY x q k:=by
 induction k with
 | zero=>rfl
 | succ k ih=>simp only [zY,ih,h]
theorem c7f{x:Hp}{p:Nat->Bool}(h:∀i,i<x.A.length->(x.c i).F.length<=200)(k:Nat)(hk:k<=x.A.length):zY x p k<=201*k:=by
 induction k with
 | zero=>simp [zY]
 | succ k ih=>
  have:=h k (by omega);have:=ih (by omega);simp only [zY]
  split <;> omega
theorem b4x(x:Hp)(b bs:Nat)(p:Nat->Bool)(w:World)(h:HAt w b x ar kr ac kc ag kg)(hs:∀i,i<x.A.length->w.cell? ⟨bs,i,none⟩=some (.bool (p i)))(hn8:x.A.length<=8000)(h200:∀i,i<x.A.length->(x.c i).F.length<=200):
  Calls Tryz.prog 76 #[.pointer (some ⟨b,0,none⟩),.slice (some ⟨bs,0,none⟩) x.A.length x.A.length] w λe w'=>e=.returned (.int .i64 (zY x p x.A.length:Int))/\w'=w:=by
 have HS:=uU hs;have HH:=uU h;have c4:=h.c4;have HL:=uU (λk hk=>c7f (p:=p) h200 k hk);clear hs h;go_enter Tryz.func76,Tryz.ntmps76;go_wp2_with fail
 go_loop [5,10] (λn i=>∃(k u:Nat),k<=x.A.length/\i=.int .i64 k/\n=.int .i64 u/\Hid (u=zY x p k)) (λ_ i=>x.A.length-(intOf i).toNat)
 case atStart=>exact⟨0,0,Nat.zero_le _,rfl,rfl,rfl⟩
 case round=>
  obtain⟨k,u,hk,rfl,rfl,hu⟩:=hrel;have hul:u<=201*k:=by have:=uH hu;rw[this];exact HL k hk
  by_cases hlt:k<x.A.length
  ·have hc:=uH HS k hlt;obtain⟨b',o,ap,kp,rfl,p0,p1,p2,p3,p4,p5,p6,p7,lp,P⟩:=HH.cell k hlt;have hl:=h200 k hlt;have hk0:(0:Int)<=(k:Int):=by omega
   have hk1:(k:Int)<(x.A.length:Int):=by omega
   clear P p0 p1 p2 p3 p4 p5 p6;cases tp:p k
   ·rw[tp] at hc;have U2:=uU (show u=zY x p (k+1) by have:=uH hu;simp only [zY,tp];simp;exact this);go_wp2_with fail
    go_round
    case rel=>exact⟨k+1,u,by omega,by go_num,rfl,U2⟩
    case measure=>simp [intOf];omega
   ·rw[tp] at hc;have U2:=uU (show u+(1+(x.c k).F.length)=zY x p (k+1) by have:=uH hu;simp only [zY,tp];simp;omega);go_wp2_with fail
    go_round
    case rel=>exact⟨k+1,u+(1+(x.c k).F.length),by omega,by go_num,by go_num,U2⟩
    case measure=>simp [intOf];omega
  ·have hk2:k=x.A.length:=by omega
   have U:=uU (show u=zY x p x.A.length by have:=uH hu;rw[hk2] at this;exact this);clear hk2;go_wp2_with fail;go_ret;exact⟨by rw[<-uH U];rfl,rfl⟩
def zL(x:Hp)(r:Nat):Prop:=(eQ x 0/\∃p:Nat->Bool,(∀i,p i=true↔uY x i)/\r=zY x p x.A.length)\/(¬eQ x 0/\r=0)
theorem zL.uniq{r s:Nat}(h:zL x r)(k:zL x s):r=s:=by
 rcases h with⟨h,p,hp,e⟩ | ⟨h,e⟩ <;> rcases k with⟨k,q,hq,f⟩ | ⟨k,f⟩
 ·rw[e,f];exact b7z (λi=>by rw[Bool.eq_iff_iff,hp,hq]) _
 ·exact(k h).elim
 ·exact(h k).elim
 ·rw[e,f]
theorem b2d(x:Hp)(b:Nat)(w:World)(h:HAt w b x ar kr ac kc ag kg)(ok:eQ x 0):
  Calls Tryz.prog 75 #[.pointer (some ⟨b,0,none⟩)] w λe w'=>∃r:Nat,Hid (e=.returned (.int .i64 (r:Int)))/\zL x r/\Ext w w':=by
 have HH:=uU h;have OK:=uU ok;clear h ok;go_enter Tryz.func75,Tryz.ntmps75;go_wp2_with fail;refine(b7r x b _ HH OK.all.2.1 OK.all.2.2.2 OK.n8).mono ?_;rintro e w1 ⟨v,L,rfl,hs,hr,hq⟩;have HS:=uU hs;clear hs;go_wp2_with fail;refine(b4x x b w.heap.size (λi=>decide ((i:Int)∈L)) _ (HH.ext hq) HS.s OK.n8 OK.p200).mono ?_;rintro e w2 ⟨rfl,rfl⟩;go_wp2_with fail;go_ret;exact⟨_,rfl,.inl ⟨OK,_,λi=>by simpa using uH hr i,rfl⟩,hq⟩
theorem Hp.c_set(x:Hp)(i:Nat)(c:Cl)(hi:i<x.A.length)(q:Nat):({ x with A:=x.A.set i c }:Hp).c q=if q=i then c else x.c q:=by
 simp only [Hp.c,List.getD_eq_getElem?_getD,List.getElem?_set];by_cases e:q=i
 ·subst e;simp [hi]
 ·rw[if_neg (λh=>e h.symm),if_neg e]
def mkB(x:Hp):Bool:=x.E == 1 || x.E == 2
def whB(c:Cl):Bool:=c.st == 1 && c.J == 0
def eJ(x:Hp)(i:Nat):Bool:=mkB x && whB (x.c i)
def tY(c:Cl):Cl:={ c with J:=1 }
def uW(x:Hp)(i:Nat):Hp:=if eJ x i=true then { x with A:=x.A.set i (tY (x.c i)),D:=x.D++[(i:Int)] } else x
end Go.Proofs.YtddkhnclmeikfaaGreat
