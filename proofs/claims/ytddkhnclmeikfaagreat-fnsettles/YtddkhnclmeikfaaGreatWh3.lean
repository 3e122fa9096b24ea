import Derived.Test.YtddkhnclmeikfaaGreatMp2
import Derived.Test.YtddkhnclmeikfaaGreatImpU
import Derived.Ground.SlgcProg
import Derived.Ground.SlsfProg
import Derived.Shelf.SlSortCmp.NoneTotal
import Derived.Shelf.SlSortCmp.Whole1
import Derived.Shelf.SlicesG.Cmp
namespace Go.Proofs
open Go.Shelf
def Tryz.sortL_ren:Go.Shelf.Ren:=⟨fun | 6=>167 | 15=>225 | 14=>224 | 28=>247 | 29=>248 | 20=>239 | 21=>240 | 22=>241 | 23=>242 | 24=>243 | 25=>244 | 26=>245 | 27=>246 | 46=>255 | 47=>256 | 48=>257 | 49=>258 | 50=>259 | 57=>264 | n=>n,fun | 22=>130 | 24=>126 | 25=>198 | 3=>3 | 39=>191 | 0=>0 | 53=>249 | 55=>77 | 4=>4 | 46=>243 | 45=>242 | 50=>228 | 5=>5 | 9=>9 | 66=>252 | 70=>256 | 76=>259 | 77=>137 | n=>n,fun | n=>n⟩
theorem Tryz.sortL:Go.Proofs.SlLaysF.n6 Tryz.prog Tryz.sortL_ren:={
 mixed:=by kernel_rfl
 f6:=⟨Tryz.f167.name,by decide,Tryz.func167.trans (congrArg some (by kernel_rfl))⟩
 f14:=⟨Tryz.f224.name,by decide,Tryz.func224.trans (congrArg some (by kernel_rfl))⟩
 f15:=Tryz.func225.trans (congrArg some (by kernel_rfl))
 f20:=⟨Tryz.f239.name,by decide,Tryz.func239.trans (congrArg some (by kernel_rfl))⟩
 f21:=⟨Tryz.f240.name,by decide,Tryz.func240.trans (congrArg some (by kernel_rfl))⟩
 f22:=⟨Tryz.f241.name,by decide,Tryz.func241.trans (congrArg some (by kernel_rfl))⟩
 f23:=⟨Tryz.f242.name,by decide,Tryz.func242.trans (congrArg some (by kernel_rfl))⟩
 f24:=⟨Tryz.f243.name,by decide,Tryz.func243.trans (congrArg some (by kernel_rfl))⟩
 f25:=⟨Tryz.f244.name,by decide,Tryz.func244.trans (congrArg some (by kernel_rfl))⟩
 f26:=⟨Tryz.f245.name,by decide,Tryz.func245.trans (congrArg some (by kernel_rfl))⟩
 f27:=⟨Tryz.f246.name,by decide,Tryz.func246.trans (congrArg some (by kernel_rfl))⟩
 f28:=Tryz.func247.trans (congrArg some (by kernel_rfl))
 f29:=Tryz.func248.trans (congrArg some (by kernel_rfl))
 f46:=⟨Tryz.f255.name,by decide,Tryz.func255.trans (congrArg some (by kernel_rfl))⟩
 f47:=Tryz.func256.trans (congrArg some (by kernel_rfl))
 f48:=Tryz.func257.trans (congrArg some (by kernel_rfl))
 f49:=⟨Tryz.f258.name,by decide,Tryz.func258.trans (congrArg some (by kernel_rfl))⟩
 f50:=⟨Tryz.f259.name,by decide,Tryz.func259.trans (congrArg some (by kernel_rfl))⟩
 f57:=⟨Tryz.f264.name,by decide,Tryz.func264.trans (congrArg some (by kernel_rfl))⟩
 t0:=Tryz.underlying0
 a0:=Tryz.isAgg0
 z0:=Tryz.sizeOf0
 v0:=Tryz.zeroValue0
 t3:=Tryz.underlying3
 a3:=Tryz.isAgg3
 z3:=Tryz.sizeOf3
 v3:=Tryz.zeroValue3
 t4:=Tryz.underlying4
 a4:=Tryz.isAgg4
 z4:=Tryz.sizeOf4
 v4:=Tryz.zeroValue4
 t5:=Tryz.underlying5
 a5:=Tryz.isAgg5
 z5:=Tryz.sizeOf5
 v5:=Tryz.zeroValue5
 t9:=Tryz.underlying9
 a9:=Tryz.isAgg9
 z9:=Tryz.sizeOf9
 v9:=Tryz.zeroValue9
 t22:=Tryz.underlying130
 a22:=Tryz.isAgg130
 z22:=Tryz.sizeOf130
 v22:=Tryz.zeroValue130
 a24:=Tryz.isAgg126
 z24:=Tryz.sizeOf126
 t25:=Tryz.underlying198
 a25:=Tryz.isAgg198
 z25:=Tryz.sizeOf198
 v25:=Tryz.zeroValue198
 t39:=Tryz.underlying191
 a39:=Tryz.isAgg191
 z39:=Tryz.sizeOf191
 v39:=Tryz.zeroValue191
 t45:=Tryz.underlying242
 a45:=Tryz.isAgg242
 z45:=Tryz.sizeOf242
 v45:=Tryz.zeroValue242
 t46:=Tryz.underlying243
 a46:=Tryz.isAgg243
 z46:=Tryz.sizeOf243
 v46:=Tryz.zeroValue243
 t50:=Tryz.underlying228
 a50:=Tryz.isAgg228
 z50:=Tryz.sizeOf228
 v50:=Tryz.zeroValue228
 t53:=Tryz.underlying249
 a53:=Tryz.isAgg249
 z53:=Tryz.sizeOf249
 v53:=Tryz.zeroValue249
 t55:=Tryz.underlying77
 a55:=Tryz.isAgg77
 z55:=Tryz.sizeOf77
 v55:=Tryz.zeroValue77
 t66:=Tryz.underlying252
 a66:=Tryz.isAgg252
 z66:=Tryz.sizeOf252
 v66:=Tryz.zeroValue252
 t70:=Tryz.underlying256
 a70:=Tryz.isAgg256
 z70:=Tryz.sizeOf256
 v70:=Tryz.zeroValue256
 t76:=Tryz.underlying259
 a76:=Tryz.isAgg259
 z76:=Tryz.sizeOf259
 v76:=Tryz.zeroValue259
 t77:=Tryz.underlying137
 a77:=Tryz.isAgg137
 z77:=Tryz.sizeOf137
 v77:=Tryz.zeroValue137 }
def Tryz.cmpL_ren:Go.Shelf.Ren:=⟨fun | 5=>169 | 7=>226 | n=>n,fun | 22=>3 | 3=>3 | 4=>4 | n=>n,fun | n=>n⟩
theorem Tryz.cmpL:Go.Proofs.SlLaysC2.n5 Tryz.prog Tryz.cmpL_ren:={
 mixed:=by kernel_rfl
 f5:=⟨Tryz.f169.name,by decide,Tryz.func169.trans (congrArg some (by kernel_rfl))⟩
 f7:=⟨Tryz.f226.name,by decide,Tryz.func226.trans (congrArg some (by kernel_rfl))⟩
 t3:=Tryz.underlying3
 a3:=Tryz.isAgg3
 z3:=Tryz.sizeOf3
 v3:=Tryz.zeroValue3
 t4:=Tryz.underlying4
 a4:=Tryz.isAgg4
 z4:=Tryz.sizeOf4
 v4:=Tryz.zeroValue4
 t22:=Tryz.underlying3
 a22:=Tryz.isAgg3
 z22:=Tryz.sizeOf3
 v22:=Tryz.zeroValue3 }
end Go.Proofs
set_option maxRecDepth 100000
set_option maxHeartbeats 2000000
namespace Go.Proofs.YtddkhnclmeikfaaGreat
open Go.RowKit
attribute [local go_sem ↓] Go.wp_at_zero Go.wp_at_succ
variable{Mt St Mt' St' Ls:List Nat}{x:Hp}{w w' w1 w2:World}{bw r1 on kr kn bn bv base n b i j g cap kc kg:Nat}{ac:Nat->Option Addr}{v v':Value}{ar an ag:Option Addr}{y:Wd}
theorem b1r:∃et,Tryz.prog.underlying 110=some (.map 126 et)/\∀w,(zeroValue et).run Tryz.prog w=.ok (.agg #[]) w:=⟨_,Tryz.underlying110,λ_=>by kernel_rfl⟩
theorem a7c:Tryz.prog.underlying 126=some (.pointer 124):=Tryz.underlying126
theorem b0u:(Tryz.prog.info? 126).map (λi=>(i.zero,i.size,i.bytes))=some (some (.pointer none),1,8):=by kernel_rfl
theorem a5x(r bn p:Nat)(Q:List Nat)(w:World)(h:zQ w r bn Q):
  Calls Tryz.prog 118 #[.map (some r),ptr bn p] w λe w'=>e=.returned (.bool (decide (p∈Q)))/\Ext w w':=by
 obtain⟨et,hu,hz⟩:=b1r;obtain⟨i0,hi,_,hz1,_⟩:=info_parts a5c;have hlk:=h.lookup hu a7c hi (by rw[hz1];omega) hz p;clear hu hz hi hz1 h;obtain⟨ans,ha⟩:∃a,decide (p∈Q)=a:=⟨_,rfl⟩;rw[ha] at hlk ⊢;clear ha;go_enter Tryz.func118,Tryz.ntmps118;go_wp2_with fail;go_ret;exact⟨rfl,(Ext.refl w).alloc _⟩
structure eH(w:World)(base bw bv r1 bn on n:Nat)(v:Value)(Mt St:List Nat):Prop where
 c0:w.cell? ⟨bw,0,none⟩=some (.pointer (some ⟨bv,0,none⟩))
 c1:w.cell? ⟨bw,1,none⟩=some (.map (some r1))
 c2:w.cell? ⟨bw,2,none⟩=some v
 f2:w.frozen? ⟨bw,2,none⟩=false
 m:zQ w r1 bn (Mt.map (λi=>on+i*2))
 s:w.ownsRow base 126 1 v St.length (St.map (λi=>ptr bn (on+i*2)))
 a1:v.ownBlock≠some bw
 a2:v.ownBlock≠some r1
 a3:bw≠r1
 b1:base<=bw
 b2:base<=r1
 sub:∀i,i∈St->i∈Mt
 nd:Mt.Nodup
 nds:St.Nodup
 rg:∀i,i∈Mt->i<n
structure KFr(bw r1:Nat)(v v':Value)(w w':World):Prop where
 os:w'.os=w.os
 tape:w'.tape=w.tape
 output:w'.output=w.output
 size:w.heap.size<=w'.heap.size
 block:∀k:Nat,k<w.heap.size->k≠bw->k≠r1->v.ownBlock≠some k->w'.heap[k]?=w.heap[k]?
 own:v'.ownBlock=v.ownBlock\/∃g,v'.ownBlock=some g/\w.heap.size<=g
 keep:∀o u,o≠2->w.cell? ⟨bw,o,none⟩=some u->w'.cell? ⟨bw,o,none⟩=some u
theorem KFr.of_ext(e:Ext w w'):KFr bw r1 v v w w':=⟨e.os,e.tape,e.output,e.size,λk hk _ _ _=>e.block k hk,.inl rfl,λ_ _ _ h=>e.keep h⟩
theorem KFr.trans{v1 v2:Value}(h:KFr bw r1 v v1 w w1)(k:KFr bw r1 v1 v2 w1 w2):KFr bw r1 v v2 w w2:=
 ⟨k.os.trans h.os,k.tape.trans h.tape,k.output.trans h.output,Nat.le_trans h.size k.size,
  λi hi h1 h2 hv=>(k.block i (Nat.lt_of_lt_of_le hi h.size) h1 h2 (λe=>by
   rcases h.own with q | ⟨g,q,hg⟩
   ·rw[q] at e;exact hv e
   ·rw[q] at e;cases e;omega)).trans (h.block i hi h1 h2 hv),by
   rcases k.own with q | ⟨g,q,hg⟩
   ·rcases h.own with q2 | ⟨g,q2,hg⟩
    ·exact .inl (q.trans q2)
    ·exact .inr ⟨g,q.trans q2,hg⟩
   ·exact .inr ⟨g,q,Nat.le_trans h.size hg⟩,λo u ho hc=>k.keep o u ho (h.keep o u ho hc)⟩
theorem eH.rlt(h:eH w base bw bv r1 bn on n v Mt St):bw<w.heap.size/\r1<w.heap.size:=by
 refine⟨uL h.c0,?_⟩;obtain⟨es,c,h1,_⟩:=h.m.m;rcases Nat.lt_or_ge r1 w.heap.size with q | q
 ·exact q
 ·rw[Array.getElem?_eq_none q] at h1;cases h1
theorem eH.ext(h:eH w base bw bv r1 bn on n v Mt St)(e:Ext w w'):eH w' base bw bv r1 bn on n v Mt St:=
 ⟨e.keep h.c0,e.keep h.c1,e.keep h.c2,by rw[e.frozen (p:=⟨bw,2,none⟩) h.rlt.1];exact h.f2,h.m.block (e.block r1 h.rlt.2),uN h.s (λk hk=>e.block k (h.s.lt k hk).2),h.a1,h.a2,h.a3,h.b1,h.b2,h.sub,h.nd,h.nds,h.rg⟩
theorem eH.kext{a:World}(h:eH w a.heap.size bw bv r1 bn on n v Mt St)(q:KFr bw r1 v v' w w')(e:Ext a w):Ext a w':=
 Below.trans e ⟨q.os,q.tape,q.output,q.size,λk hk=>q.block k (Nat.lt_of_lt_of_le hk e.size) (by have:=h.b1;omega) (by have:=h.b2;omega) (λf=>by have:=(h.s.lt k f).1;omega)⟩
theorem eH.len(h:eH w base bw bv r1 bn on n v Mt St):Mt.length<=n/\St.length<=n:=by
 have key:∀L:List Nat,L.Nodup->(∀i,i∈L->i<n)->L.length<=n:=λL hn hr=>by
  have:=List.Nodup.length_le_of_subset hn (λz hz=>List.mem_range.2 (hr z hz))
  simpa using this
 exact⟨key _ h.nd h.rg,key _ h.nds (λi hi=>h.rg i (h.sub i hi))⟩
theorem a4n:on+i*2∈Mt.map (λi=>on+i*2)↔i∈Mt:=by
 simp only [List.mem_map];constructor
 ·rintro⟨j,hj,e⟩;have:j=i:=by omega
  rw[<-this];exact hj
 ·intro h;exact⟨i,h,rfl⟩
theorem eH.add{o:Obj}(h:eH w base bw bv r1 bn on n v Mt St)(hi:i<n)(hm:¬i∈Mt)
  (hm1:zQ w1 r1 bn (Mt.map (λi=>on+i*2)++[on+i*2])) (hos:w1.os=w.os) (ht:w1.tape=w.tape) (hou:w1.output=w.output) (hsz:w1.heap.size=w.heap.size) (hbl:∀k:Nat,k≠r1->w1.heap[k]?=w.heap[k]?)
  (hown:w2.ownsRow base 126 1 (.slice (some ⟨g,0,none⟩) (St.length+1) cap) (St.length+1) (St.map (λi=>ptr bn (on+i*2))++[ptr bn (on+i*2)])) (hg:(w1.alloc o).grownBy w2 v.ownBlock) (hat:v.ownBlock=some g\/g=w1.heap.size+1) :
  eH (w2.setCell ⟨bw,2,none⟩ (.slice (some ⟨g,0,none⟩) (St.length+1) cap)) base bw bv r1 bn on n (.slice (some ⟨g,0,none⟩) (St.length+1) cap) (Mt++[i]) (St++[i])/\
  KFr bw r1 v (.slice (some ⟨g,0,none⟩) (St.length+1) cap) w (w2.setCell ⟨bw,2,none⟩ (.slice (some ⟨g,0,none⟩) (St.length+1) cap))/\w2.cell? ⟨bw,2,none⟩=some v/\w2.frozen? ⟨bw,2,none⟩=false:=by
 have hr:=h.rlt;have hs1:w1.heap.size+1<=w2.heap.size:=by have:=hg.size;simpa using this
 have blk:∀k:Nat,k<w1.heap.size->v.ownBlock≠some k->w2.heap[k]?=w1.heap[k]?:=λk hk hv=>(hg.block k (by simp;omega) (λe=>hv e.symm)).trans (Below.heap_alloc w1 o k hk)
 have hbw:w2.heap[bw]?=w.heap[bw]?:=(blk bw (by omega) h.a1).trans (hbl bw h.a3)
 have hgb:g≠bw/\g≠r1:=by
  rcases hat with e | e
  ·exact⟨λq=>h.a1 (q ▸ e),λq=>h.a2 (q ▸ e)⟩
  ·omega
 have cc:∀o' v',w.cell? ⟨bw,o',none⟩=some v'->w2.cell? ⟨bw,o',none⟩=some v':=λo' v' hc=>(World.cell?_of_block (a:=⟨bw,o',none⟩) hbw).trans hc
 have hc2:=cc 2 _ h.c2;have hf2:w2.frozen? ⟨bw,2,none⟩=false:=(World.frozen?_of_block (a:=⟨bw,2,none⟩) hbw).trans h.f2;refine⟨⟨?_,?_,World.cell?_setCell_same _ _ _ hc2,by rw[World.frozen?_setCell];exact hf2,?_,?_,λe=>hgb.1 (by simpa [Value.ownBlock] using e),λe=>hgb.2 (by simpa [Value.ownBlock] using e),h.a3,h.b1,h.b2,?_,?_,?_,?_⟩,⟨?_,?_,?_,?_,λk hk h1 h2 h3=>?_,?_,λo u ho hc=>(uC _ (.inr (λe=>ho e.symm))).trans (cc o u hc)⟩,hc2,hf2⟩
 ·rw[uC _ (.inr (by omega))];exact cc 0 _ h.c0
 ·rw[uC _ (.inr (by omega))];exact cc 1 _ h.c1
 ·refine zQ.block (w:=w1) (by simpa using hm1) ?_;rw[Below.heap_setCell _ _ _ _ (show r1≠bw from λe=>h.a3 e.symm)];exact blk r1 (by omega) h.a2
 ·refine uN (by simpa using hown) (λk hk=>Below.heap_setCell _ _ _ _ ?_);simp [Value.ownBlock] at hk;show k≠bw;omega
 ·intro j hj;rcases List.mem_append.1 hj with q | q
  ·exact List.mem_append_left _ (h.sub j q)
  ·exact List.mem_append_right _ q
 ·rw[List.nodup_append];exact⟨h.nd,by simp,λa ha b hb=>by simp at hb;rw[hb];intro e;exact hm (e ▸ ha)⟩
 ·rw[List.nodup_append];exact⟨h.nds,by simp,λa ha b hb=>by simp at hb;rw[hb];intro e;exact hm (e ▸ h.sub a ha)⟩
 ·intro j hj;rcases List.mem_append.1 hj with q | q
  ·exact h.rg j q
  ·simp at q;omega
 ·exact(hg.os.trans rfl).trans hos
 ·exact(hg.tape.trans rfl).trans ht
 ·exact(hg.output.trans rfl).trans hou
 ·have:(w2.setCell ⟨bw,2,none⟩ (.slice (some ⟨g,0,none⟩) (St.length+1) cap)).heap.size=w2.heap.size:=by simp [World.setCell]
  omega
 ·rw[Below.heap_setCell _ _ _ _ (show k≠bw from h1),blk k (by omega) h3];exact hbl k h2
 ·rcases hat with e | e
  ·exact .inl e.symm
  ·exact .inr ⟨g,rfl,by omega⟩
theorem b8u(bw:Nat)(w:World):
  Calls Tryz.prog 121 #[.pointer (some ⟨bw,0,none⟩),.pointer none] w λe w'=>e=.returned (.tuple #[])/\w'=w:=by
 go_enter Tryz.func121,Tryz.ntmps121;go_wp2_with fail
 try simp only [Exit.inBlock,Exit.then]
 refine bodyPost_ret (results_none rfl _ _ _) rfl ?_;exact⟨rfl,rfl⟩
theorem a9s(base bw bv r1 bn on n i:Nat)(v:Value)(Mt St:List Nat)(w:World)(h:eH w base bw bv r1 bn on n v Mt St)(hi:i<n)(hb:base<=w.heap.size)(hn8:n<=8000):
  Calls Tryz.prog 121 #[.pointer (some ⟨bw,0,none⟩),ptr bn (on+i*2)] w λe w'=>e=.returned (.tuple #[])/\∃v' Mt' St',eH w' base bw bv r1 bn on n v' Mt' St'/\Hid ((i∈Mt/\Mt'=Mt/\St'=St)\/(¬i∈Mt/\Mt'=Mt++[i]/\St'=St++[i]))/\KFr bw r1 v v' w w':=by
 obtain⟨et,hu,hz⟩:=b1r;obtain⟨i1,hi1,_,hz1,_⟩:=info_parts a5c;obtain⟨i0,hi0,hy0,hy1,hy2⟩:=info_parts b0u;have hlen:=h.len.2;have c1:=h.c1;have c2:=h.c2;have HW:=uU h;have HU:=uU hu;have HN:=uU hi1;have HZ:=uU hz1;clear h hu hz hi1 hz1;go_enter Tryz.func121,Tryz.ntmps121;go_wp2_with fail;refine(a5x r1 bn (on+i*2) _ _ HW.m).mono ?_;rintro e w1 ⟨rfl,hq⟩;have W1:=uU (HW.ext hq);have d1:=hq.keep c1;have d2:=hq.keep c2;clear c1 c2;by_cases hm:i∈Mt
 ·have E:decide (on+i*2∈Mt.map (λi=>on+i*2))=true:=decide_eq_true (a4n.2 hm);rw[E];clear E;have K:=uU (KFr.of_ext (bw:=bw) (r1:=r1) (v:=v) hq);clear hq;go_wp2_with fail
  try simp only [Exit.inBlock,Exit.then]
  refine bodyPost_ret (results_none rfl _ _ _) rfl ?_;exact⟨rfl,v,Mt,St,W1,.inl ⟨hm,rfl,rfl⟩,K⟩
 ·have E:decide (on+i*2∈Mt.map (λi=>on+i*2))=false:=decide_eq_false (λf=>hm (a4n.1 f));rw[E];clear E;obtain⟨wU,hUp,m1,hos,ht,hou,hsz,hbl⟩:=zQ.update W1.m HU a7c HN (by rw[uH HZ];omega) (on+i*2) (λf=>hm (a4n.1 f));have K:=uU (KFr.of_ext (bw:=bw) (r1:=r1) (v:=v) hq);have dU:wU.cell? ⟨bw,2,none⟩=some v:=(World.cell?_of_block (w:=w1) (a:=⟨bw,2,none⟩) (hbl bw W1.a3)).trans d2;have OW:=uU (show wU.ownsRow base 126 1 v St.length (St.map (λi=>ptr bn (on+i*2))) from uN W1.s (λk hk=>hbl k (λe=>W1.a2 (e ▸ hk))));have AD:=uU (And.intro m1 (And.intro hos (And.intro ht (And.intro hou (And.intro hsz hbl)))));have hbU:base<=wU.heap.size:=by have:=hq.size;omega
  clear m1 hos ht hou hsz hbl hq;go_wp2_with (at_builtin;refine wpList_append_lies _ rfl _ _ 130 rfl base 126 i0 (.pointer none) 1 8 Tryz.underlying130 hi0 hy0 hy1 hy2 rfl (by decide) v St.length (St.map (λi=>ptr bn (on+i*2))) rfl (OW.alloc _) _ 1 1 [ptr bn (on+i*2)] rfl rfl ?c1 ?c2 (by decide) ?c3 ?c4 ?c5 _ rfl ?_)
  case c1=>
   intro j u hj
   match j,hj with
   | 0,hj=>simp at hj;subst hj;simp [Addr.add]
  case c2=>intro u hu;simp at hu;subst hu;rfl
  case c3=>unfold maxLen;omega
  case c4=>omega
  case c5=>simp;omega
  intro g cap w2 hown hgrow hat hglt;obtain⟨q1,q2,q3,q4⟩:=eH.add W1 hi hm AD.1 AD.2.1 AD.2.2.1 AD.2.2.2.1 AD.2.2.2.2.1 AD.2.2.2.2.2 hown hgrow (by simpa using hat);have FIN:=uU (And.intro q1 (K.trans q2));clear q1 q2 hown hgrow hat dU;go_wp2_with fail
  go_end0
  exact⟨rfl,_,Mt++[i],St++[i],FIN.1,.inr ⟨hm,rfl,rfl⟩,FIN.2⟩
theorem c5n(base bw bv r1 bn on n:Nat)(v:Value)(Mt:List Nat)(w:World)(h:eH w base bw bv r1 bn on n v Mt []):
  Calls Tryz.prog 122 #[.pointer (some ⟨bw,0,none⟩)] w λe w'=>e=.returned (.pointer none)/\w'=w:=by
 obtain⟨ad,cap,rfl⟩:∃ad cap,v=.slice ad 0 cap:=by
  rcases h.s.2 with⟨h1,_⟩ | ⟨g,cap,cur,h1,_⟩
  ·exact⟨none,0,h1⟩
  ·exact⟨_,_,h1⟩
 have c2:=h.c2;clear h;go_enter Tryz.func122,Tryz.ntmps122;go_wp2_with fail;go_ret;exact⟨rfl,rfl⟩
theorem eH.pop{m:Nat}(h:eH w base bw bv r1 bn on n (.slice (some ⟨g,0,none⟩) (m+1) cap) Mt (St++[j]))(hm:St.length=m):
  eH (w.setCell ⟨bw,2,none⟩ (.slice (some ⟨g,0,none⟩) m cap)) base bw bv r1 bn on n (.slice (some ⟨g,0,none⟩) m cap) Mt St/\KFr bw r1 (.slice (some ⟨g,0,none⟩) (m+1) cap) (.slice (some ⟨g,0,none⟩) m cap) w (w.setCell ⟨bw,2,none⟩ (.slice (some ⟨g,0,none⟩) m cap)):=by
 have hgb:g≠bw:=λe=>h.a1 (by rw[e];rfl)
 have hs:=h.s;simp only [List.length_append,List.length_singleton,List.map_append,List.map_cons,List.map_nil,hm] at hs;have how:=ownsRow_pop (by simp [hm]) hs;refine⟨⟨?_,?_,World.cell?_setCell_same _ _ _ h.c2,by rw[World.frozen?_setCell];exact h.f2,?_,?_,h.a1,h.a2,h.a3,h.b1,h.b2,λi hi=>h.sub i (List.mem_append_left _ hi),h.nd,?_,h.rg⟩,⟨rfl,rfl,rfl,by simp [World.setCell],λk _ h1 _ _=>Below.heap_setCell _ _ _ _ (show k≠bw from h1),.inl rfl,λo u ho hc=>(uC _ (.inr (λe=>ho e.symm))).trans hc⟩⟩
 ·rw[uC _ (.inr (by omega))];exact h.c0
 ·rw[uC _ (.inr (by omega))];exact h.c1
 ·exact h.m.block (Below.heap_setCell _ _ _ _ (show r1≠bw from λe=>h.a3 e.symm))
 ·rw[hm];refine uN how (λk hk=>Below.heap_setCell _ _ _ _ ?_);simp [Value.ownBlock] at hk;show k≠bw;omega
 ·have:=h.nds;rw[List.nodup_append] at this;exact this.1
theorem c5o(base bw bv r1 bn on n j:Nat)(v:Value)(Mt St:List Nat)(w:World)(h:eH w base bw bv r1 bn on n v Mt (St++[j]))(hn8:n<=8000):
  Calls Tryz.prog 122 #[.pointer (some ⟨bw,0,none⟩)] w λe w'=>e=.returned (ptr bn (on+j*2))/\∃v',eH w' base bw bv r1 bn on n v' Mt St/\KFr bw r1 v v' w w':=by
 have hl:=h.len.2;obtain⟨m,hm⟩:∃m,St.length=m:=⟨_,rfl⟩
 obtain⟨g,cap,hv,hc⟩:∃g cap,v=.slice (some ⟨g,0,none⟩) (m+1) cap/\m+1<=cap:=by
  rcases h.s.2 with⟨_,h1⟩ | ⟨g,cap,cur,h1,_,_,hcap,_⟩
  ·simp at h1
  ·simp only [List.length_append,List.length_singleton,hm] at h1 hcap;exact⟨g,cap,h1,hcap⟩
 subst hv;have hs:=h.s;simp only [List.length_append,List.length_singleton,List.map_append,List.map_cons,List.map_nil,hm] at hs hl
 have cj:w.cell? ⟨g,m,none⟩=some (ptr bn (on+j*2)):=by
  have:=World.ownsRow.cellAt hs m (by omega);rw[this,List.getElem?_append_right (by simp [hm])];simp [hm]
 have c2:=h.c2;have f2:=h.f2;have FIN:=uU (h.pop hm);have i0:(0:Int)<=(m:Int):=by omega
 have i1:(m:Int)<(m:Int)+1:=by omega
 have i2:(m:Int)<=(cap:Int):=by omega
 clear h hs hm;go_enter Tryz.func122,Tryz.ntmps122;go_wp2_with fail;go_ret;exact⟨rfl,_,FIN.1,FIN.2⟩
structure HNt(w:World)(b:Nat)(x:Hp)(ar:Option Addr)(kr:Nat)(ac:Nat->Option Addr):Prop where
 c3:w.cell? ⟨b,3,none⟩=some (.slice ar x.regs.length kr)
 lr:x.regs.length<=35184372088832
 R:∀i (hi:i<x.regs.length),∃b' o,ar=some ⟨b',o,none⟩/\yC w b' (o+i*3) x.regs[i]
 C:∀i,i<x.cells.length->∃b' o,ac i=some ⟨b',o,none⟩/\b7p w b' o (x.c i)
theorem HNt.ext(h:HNt w b x ar kr ac)(e:Ext w w'):HNt w' b x ar kr ac:=
 ⟨e.keep h.c3,h.lr,λi hi=>let ⟨b',o,a,p⟩:=h.R i hi;⟨b',o,a,p.ext e⟩,λi hi=>let ⟨b',o,a,p⟩:=h.C i hi;⟨b',o,a,p.ext e⟩⟩
theorem HNt.cell(h:HNt w b x ar kr ac)(i:Nat)(hi:i<x.cells.length):
  ∃b' o ap kp,ac i=some ⟨b',o,none⟩/\CAt w b' o (x.c i) ap kp:=by
 obtain⟨b',o,e,vp,p0,p1,p2,p3,p4,p5,p6,p7,ap,kp,rfl,lp,P⟩:=h.C i hi;exact⟨b',o,ap,kp,e,p0,p1,p2,p3,p4,p5,p6,p7,lp,λk hk=>by obtain⟨b2,o2,e2,q⟩:=P k hk;rw[Cl.p_eq _ _ hk] at q;exact⟨b2,o2,e2,q⟩⟩
structure VNt(w:World)(b:Nat)(x:Hp)(ar:Option Addr)(kr:Nat)(ac:Nat->Option Addr)(an:Option Addr)(kn:Nat):Prop where
 H:HNt w b x ar kr ac
 n13:w.cell? ⟨b,13,none⟩=some (.slice an x.cells.length kn)
 N:∀i,i<x.cells.length->∃bn on bc oc,an=some ⟨bn,on,none⟩/\ac i=some ⟨bc,oc,none⟩/\w.cell? ⟨bn,on+i*2,none⟩=some (iv i)/\w.cell? ⟨bn,on+i*2+1,none⟩=some (.pointer (some ⟨bc,oc,none⟩))
theorem VNt.ext(h:VNt w b x ar kr ac an kn)(e:Ext w w'):VNt w' b x ar kr ac an kn:=
 ⟨h.H.ext e,e.keep h.n13,λi hi=>let ⟨bn,on,bc,oc,a,a',p,q⟩:=h.N i hi;⟨bn,on,bc,oc,a,a',e.keep p,e.keep q⟩⟩
structure b8y(w:World)(b:Nat)(x:Hp)(ac:Nat->Option Addr)(an:Option Addr)(kn:Nat):Prop where
 n13:w.cell? ⟨b,13,none⟩=some (.slice an x.cells.length kn)
 N:∀i,i<x.cells.length->∃bn on bc oc,an=some ⟨bn,on,none⟩/\ac i=some ⟨bc,oc,none⟩/\w.cell? ⟨bn,on+i*2+1,none⟩=some (.pointer (some ⟨bc,oc,none⟩))/\w.cell? ⟨bc,oc,none⟩=some (iv (x.c i).st)/\w.cell? ⟨bc,oc+6,none⟩=some (iv (x.c i).to)
theorem b8y.ext(h:b8y w b x ac an kn)(e:Ext w w'):b8y w' b x ac an kn:=
 ⟨e.keep h.n13,λi hi=>let ⟨bn,on,bc,oc,a,a',p,q,r⟩:=h.N i hi;⟨bn,on,bc,oc,a,a',e.keep p,e.keep q,e.keep r⟩⟩
theorem VNt.f(h:VNt w b x ar kr ac an kn):b8y w b x ac an kn:=
 ⟨h.n13,λi hi=>by
  obtain⟨bn,on,bc,oc,a,a',p,q⟩:=h.N i hi;obtain⟨b2,o2,ap,kp,e,C⟩:=h.H.cell i hi;rw[a'] at e;cases e;exact⟨bn,on,bc,oc,a,a',q,C.p0,C.p6⟩⟩
def acs(ac:Option Addr)(i:Nat):Option Addr:=ac.map λa=>⟨a.block,a.off+i*8,a.spot⟩
theorem VAt.vn{ac:Option Addr}(h:VAt w b x ar kr ac kc ag kg an kn):VNt w b x ar kr (acs ac) an kn:=
 ⟨⟨h.H.c3,h.H.lr,h.H.R,λi hi=>by
  obtain⟨b',o,e,p⟩:=h.H.C i hi;subst e;exact⟨b',o+i*8,rfl,p⟩⟩,h.n13,λi hi=>by
  obtain⟨bn,on,bc,oc,e1,e2,p,q⟩:=h.N i hi;subst e2;exact⟨bn,on,bc,oc+i*8,e1,rfl,p,q⟩⟩
theorem a5d(x:Hp)(w:World){ac:Option Addr}(hR:SlW w (.slice ar x.regs.length kr) x.regs)(hC:SlC w (.slice ac x.cells.length kc) x.cells)(hG:SlI w (.slice ag x.gray.length kg) x.gray)(hcap:a2k w x ac):
  Calls Tryz.prog 65 #[x.v (.slice ar x.regs.length kr) (.slice ac x.cells.length kc) (.slice ag x.gray.length kg)] w λe w'=>Ext w w'/\Hid ((¬eU x 0/\e=.returned (.tuple #[.pointer none,.bool false]))\/(eU x 0/\∃b an kn,e=.returned (.tuple #[.pointer (some ⟨b,0,none⟩),.bool true])/\VAt w' b x ar kr ac kc ag kg an kn/\Hid (∃bn on,an=some ⟨bn,on,none⟩))):=by
 have x1:=(Ext.refl w).alloc (.cells #[iv x.room,iv x.used,iv x.born,.slice ar x.regs.length kr,.slice ac x.cells.length kc,iv x.phase,iv x.hand,iv x.sub,.slice ag x.gray.length kg,iv x.per,iv x.start,iv x.rounds,iv x.forced] 34);have S1:=uU (SlW.ext x1 hR);have S2:=uU (SlC.ext x1 hC);have S3:=uU (SlI.ext x1 hG);have S4:=uU (hcap.extS hC x1);clear hR hC hG hcap;go_enter Tryz.func65,Tryz.ntmps65;go_wp2_with fail;refine(b8x x _ S1 S2 S3).mono ?_;rintro e w2 ⟨b,rfl,hq,hor⟩;have x2:=x1.trans hq;rcases uH hor with⟨hn,hh⟩ | ⟨hr,an,kn,base,vf,F,hv,hf,han⟩
 ·have HH:=uU hh;clear hor hh;go_wp2_with fail;refine(b5t x b _ HH hn).mono ?_;rintro e w3 ⟨n,rfl,hok,hq3⟩;have x3:=x2.trans hq3;have OK:=uU hok;clear hok;cases t:(n == 0)
  ·have t2:(n != 0)=true:=by simpa using t
   have N:=uU (show ¬eU x 0 from λh=>by have:=eU.uniq h OK;simp at t;omega);go_wp2_with fail;go_ret2;exact⟨x3,.inl ⟨N,rfl⟩⟩
  ·exfalso;have h0:eU x 0:=by have:=uH OK;simp at t;rw[t] at this;exact this
   have h1:eU x 1:=.inl ⟨hn,rfl⟩;have:=eU.uniq h0 h1;omega
 ·have HV:=uU hv;have HF:=uU hf;have HC:=uU (S4.extS S2 hq);have HR:=uU hr;clear hor hv hf hr;go_wp2_with fail;refine(b3o x b _ HV HF HC HR).mono ?_;rintro e w3 ⟨n,rfl,hok,hq3⟩;have x3:=x2.trans hq3;have OK:=uU hok;have V3:=uU (HV.ext hq3);clear hok;cases t:(n == 0)
  ·have t2:(n != 0)=true:=by simpa using t
   have N:=uU (show ¬eU x 0 from λh=>by have:=eU.uniq h OK;simp at t;omega);go_wp2_with fail;go_ret2;exact⟨x3,.inl ⟨N,rfl⟩⟩
  ·have t2:(n != 0)=false:=by simpa using t
   have Y:=uU (show eU x 0 by have:=uH OK;simp at t;rw[t] at this;exact this);go_wp2_with fail;go_ret2;exact⟨x3,.inr ⟨Y,b,an,kn,rfl,V3,han⟩⟩
theorem b8z(y:Wd)(b:Nat)(w:World)(k2:(y.k == 2)=false):
  Calls Tryz.prog 123 #[.pointer (some ⟨b,0,none⟩),y.v] w λe w'=>e=.returned (.pointer none)/\Ext w w':=by
 go_enter Tryz.func123,Tryz.ntmps123;go_wp2_with fail;refine(b0p y b _ k2).mono ?_;rintro e w1 ⟨rfl,hq⟩;go_wp2_with fail;go_ret;exact⟨rfl,Ext.trans ((Ext.refl w).alloc _) hq⟩
def qZ(x:Hp)(i:Nat):Nat:=if ((x.c i).st == 2)=true then (x.c i).to.toNat else i
theorem b9a(x:Hp)(y:Wd)(b i:Nat)(w:World)(h:b8y w b x ac an kn)(r2:R2 x)(k2:(y.k == 2)=true)(hi:i<x.cells.length)(bn on:Nat)(ha:an=some ⟨bn,on,none⟩):
  Calls Tryz.prog 123 #[.pointer (some ⟨b,0,none⟩),.agg #[iv y.k,iv y.n,iv i]] w λe w'=>e=.returned (.pointer (some ⟨bn,on+qZ x i*2,none⟩))/\Ext w w':=by
 subst ha;have x1:=(Ext.refl w).alloc (.cells #[iv y.k,iv y.n,iv i] 152);cases ts:((x.c i).st == 2)
 ·have L:=uU (show qZ x i=i by simp only [qZ,ts];simp);obtain⟨bn',on',bc,oc,e1,_,m1,p0,_⟩:=h.N i hi;cases e1;have n13:=h.n13;clear h r2;go_enter Tryz.func123,Tryz.ntmps123;go_wp2_with fail;refine(a7s y b x.cells.length bn on kn i _ k2 (x1.keep n13) hi).mono ?_;rintro e w1 ⟨rfl,hq⟩;have x2:=x1.trans hq;have m1':=x2.keep m1;have p0':=x2.keep p0;clear m1 p0 n13;go_wp2_with fail;go_ret;exact⟨by rw[uH L];rfl,x2⟩
 ·have hs:(x.c i).st=2:=by simpa using ts
  obtain⟨t,ht⟩:∃t:Nat,(x.c i).to=(t:Int):=⟨(x.c i).to.toNat,by
   have:=r2.1 i hi;unfold dN eV at this;omega⟩
  have hti:t<i:=by
   have:=r2.1 i hi;unfold dN eV at this;omega
  have L:=uU (show qZ x i=t by simp only [qZ,ts];simp [ht]);obtain⟨bn',on',bc,oc,e1,_,m1,p0,p6⟩:=h.N i hi;cases e1;rw[ht] at p6;have n13:=h.n13;have t0:(0:Int)<=(t:Int):=by omega
  have t1:(t:Int)<(x.cells.length:Int):=by omega
  clear h r2 ht hs;go_enter Tryz.func123,Tryz.ntmps123;go_wp2_with fail;refine(a7s y b x.cells.length bn on kn i _ k2 (x1.keep n13) hi).mono ?_;rintro e w1 ⟨rfl,hq⟩;have x2:=x1.trans hq;have m1':=x2.keep m1;have p0':=x2.keep p0;have p6':=x2.keep p6;have n13':=x2.keep n13;clear m1 p0 n13 p6;go_wp2_with fail;go_quiet (fail);go_wp2_with fail;go_ret;exact⟨by rw[uH L];rfl,x2.drewN _⟩
def b2c(x:Hp)(y:Wd)(Mt Mt' St St':List Nat):Prop:=(y.k≠2/\Mt'=Mt/\St'=St)\/(y.k=2/\((tgt x y∈Mt/\Mt'=Mt/\St'=St)\/(¬tgt x y∈Mt/\Mt'=Mt++[tgt x y]/\St'=St++[tgt x y])))
theorem b2c.sub(h:b2c x y Mt Mt' St St'):(∀i,i∈Mt->i∈Mt')/\(∀i,i∈St->i∈St'):=by
 rcases h with⟨_,e,f⟩ | ⟨_,⟨_,e,f⟩ | ⟨_,e,f⟩⟩
 ·exact⟨λi hi=>by rw[e];exact hi,λi hi=>by rw[f];exact hi⟩
 ·exact⟨λi hi=>by rw[e];exact hi,λi hi=>by rw[f];exact hi⟩
 ·exact⟨λi hi=>by rw[e];exact List.mem_append_left _ hi,λi hi=>by rw[f];exact List.mem_append_left _ hi⟩
theorem b2c.has(h:b2c x y Mt Mt' St St')(hk:y.k=2):tgt x y∈Mt':=by
 rcases h with⟨n,_⟩ | ⟨_,⟨m,e,_⟩ | ⟨_,e,_⟩⟩
 ·exact(n hk).elim
 ·rw[e];exact m
 ·rw[e];simp
theorem b2c.new(h:b2c x y Mt Mt' St St')(hi:i∈Mt'):i∈Mt\/(y.k=2/\i=tgt x y/\i∈St'):=by
 rcases h with⟨_,e,_⟩ | ⟨k,⟨_,e,_⟩ | ⟨_,e,f⟩⟩
 ·rw[e] at hi;exact .inl hi
 ·rw[e] at hi;exact .inl hi
 ·rw[e] at hi;rcases List.mem_append.1 hi with q | q
  ·exact .inl q
  ·have:i=tgt x y:=by simpa using q
   exact .inr ⟨k,this,by rw[f,this];simp⟩
theorem b2c.weigh(h:b2c x y Mt Mt' St St'):2*Mt.length+St'.length<=2*Mt'.length+St.length/\Mt.length<=Mt'.length:=by
 rcases h with⟨_,e,f⟩ | ⟨_,⟨_,e,f⟩ | ⟨_,e,f⟩⟩
 ·rw[e,f];omega
 ·rw[e,f];omega
 ·rw[e,f];simp;omega
theorem lead_eq(x:Hp)(i:Nat):qZ x i=tD x i:=rfl
theorem a2w(x:Hp)(y:Wd)(b:Nat)(w:World)(bn on:Nat)(h:b8y w b x ac (some ⟨bn,on,none⟩) kn)(r2:R2 x)(hy:a0p x y):
  Calls Tryz.prog 123 #[.pointer (some ⟨b,0,none⟩),y.v] w λe w'=>∃t,Hid (e=.returned t)/\((y.k≠2/\t=.pointer none)\/(y.k=2/\t=ptr bn (on+tgt x y*2)))/\Ext w w':=by
 cases k2:(y.k == 2)
 ·exact(b8z y b w k2).mono λ_ _ ⟨he,hx⟩=>⟨_,he,.inl ⟨by simpa using k2,rfl⟩,hx⟩
 ·have hk:y.k=2:=by simpa using k2
  obtain⟨_,a0,a1,_,_⟩:=hy hk;obtain⟨i,hi⟩:∃i:Nat,y.a=(i:Int):=⟨y.a.toNat,by omega⟩;have:=b9a x y b i w h r2 k2 (by omega) bn on rfl;rw[<-hi] at this;exact this.mono λ_ _ ⟨he,hx⟩=>⟨_,he,.inr ⟨hk,by unfold tgt;rw[hi,lead_eq];simp⟩,hx⟩
theorem a7v(x:Hp)(y:Wd)(base bw bv r1 bn on:Nat)(t v:Value)(Mt St:List Nat)(w:World)(h:eH w base bw bv r1 bn on x.cells.length v Mt St)(hy:a0p x y)(ht:(y.k≠2/\t=.pointer none)\/(y.k=2/\t=ptr bn (on+tgt x y*2)))(hb:base<=w.heap.size)(hn8:x.cells.length<=8000):
  Calls Tryz.prog 121 #[.pointer (some ⟨bw,0,none⟩),t] w λe w'=>e=.returned (.tuple #[])/\∃v' Mt' St',eH w' base bw bv r1 bn on x.cells.length v' Mt' St'/\Hid (b2c x y Mt Mt' St St')/\KFr bw r1 v v' w w':=by
 rcases ht with⟨k,rfl⟩ | ⟨k,rfl⟩
 ·exact(b8u bw w).mono λ_ _ ⟨he,hw⟩=>by subst hw;exact⟨he,v,Mt,St,h,.inl ⟨k,rfl,rfl⟩,KFr.of_ext (Ext.refl _)⟩
 ·exact(a9s base bw bv r1 bn on x.cells.length (tgt x y) v Mt St w h (hy k).2.2.2.2.1 hb hn8).mono λ_ _ ⟨he,v',M',S',hw,ha,hk⟩=>⟨he,v',M',S',hw,.inr ⟨k,ha⟩,hk⟩
def a6k(x:Hp)(Mt:List Nat):Prop:=∀i,i∈Mt->cY x i
def a6m(x:Hp)(k:Nat)(Mt:List Nat):Prop:=∀j (h:j<x.regs.length),j<k->x.regs[j].k=2->tgt x x.regs[j]∈Mt
theorem a6k.add(h:a6k x Mt)(a:b2c x y Mt Mt' St St')(hy:y.k=2->cY x (tgt x y)):a6k x Mt':=λi hi=>by
 rcases a.new hi with q | ⟨k,e,_⟩
 ·exact h i q
 ·rw[e];exact hy k
theorem eH.start(w:World)(bv bn on n:Nat)(t:TypeId):eH (((w.alloc (.map #[] 0)).alloc (.map #[] 0)).alloc (.cells #[.pointer (some ⟨bv,0,none⟩),.map (some w.heap.size),.slice none 0 0,.map (some (w.heap.size+1))] t)) w.heap.size (w.heap.size+2) bv w.heap.size bn on n (.slice none 0 0) [] []:=by
 have hm:(((w.alloc (.map #[] 0)).alloc (.map #[] 0)).alloc (.cells #[.pointer (some ⟨bv,0,none⟩),.map (some w.heap.size),.slice none 0 0,.map (some (w.heap.size+1))] t)).heap[w.heap.size]?=some (.map #[] 0):=by
  rw[Below.heap_alloc _ _ _ (by simp;omega),Below.heap_alloc _ _ _ (by simp)];exact heap_alloc_new w _
 refine⟨by simp [go_sem],by simp [go_sem],by simp [go_sem],by simp [go_sem],⟨#[],0,hm,by simp [b2i]⟩,World.ownsRow_nil _ _ _ _,by simp [Value.ownBlock],by simp [Value.ownBlock],by omega,by omega,Nat.le_refl _,λi hi=>hi,List.nodup_nil,List.nodup_nil,λi hi=>by cases hi⟩
theorem c8h(x:Hp)(b:Nat)(w:World)(bn on:Nat)(h:VNt w b x ar kr ac (some ⟨bn,on,none⟩) kn)(r2:R2 x)(r4:R4 x)(hn8:x.cells.length<=8000):
  Calls Tryz.prog 120 #[.pointer (some ⟨b,0,none⟩)] w λe w'=>e=.returned (.pointer (some ⟨w.heap.size+2,0,none⟩))/\∃v Mt St,eH w' w.heap.size (w.heap.size+2) b w.heap.size bn on x.cells.length v Mt St/\Hid (a6k x Mt/\a6m x x.regs.length Mt/\∀i,i∈Mt->i∈St)/\Ext w w':=by
 have c3:=h.H.c3;have lr:=h.H.lr;have hb:b<w.heap.size:=uL c3;have HV:=uU h;have Q2:=uU r2;have Q4:=uU r4;have hmm:∀(t:TypeId) (w:World),(Instr.makeMap t none).run Tryz.prog w=.ok (.map (some w.heap.size)) (w.alloc (.map #[] 0)):=λ_ _=>rfl
 clear h r2 r4;have c4:=((((Ext.refl w).alloc (.map #[] 0)).alloc (.map #[] 0)).alloc (.cells #[.pointer (some ⟨b,0,none⟩),.map (some w.heap.size),.slice none 0 0,.map (some (w.heap.size+1))] 172)).keep c3;have S0:=uU (eH.start w b bn on x.cells.length 172);go_enter Tryz.func120,Tryz.ntmps120;go_wp2_with fail;go_loopw [17] (λi wr=>∃(k:Nat) (v:Value) (Mt St:List Nat),k<=x.regs.length/\i=.int .i64 k/\eH wr w.heap.size (w.heap.size+2) b w.heap.size bn on x.cells.length v Mt St/\Hid (a6k x Mt/\a6m x k Mt/\∀i,i∈Mt->i∈St)/\Ext w wr) (λi _=>x.regs.length-(intOf i).toNat)
 case atStart=>exact⟨0,_,[],[],Nat.zero_le _,rfl,S0,⟨(λi hi=>by cases hi),(λj _ hj=>by omega),λi hi=>hi⟩,(((Ext.refl w).alloc _).alloc _).alloc _⟩
 case round=>
  clear S0 c3 c4 hmm;obtain⟨k,v,Mt,St,hk,rfl,hw,hinv,hbl⟩:=hrel;have HW:=uU hw;clear hw;by_cases hlt:k<x.regs.length
  ·have hh:=HV.ext hbl;obtain⟨b',o,rfl,p0,p1,p2⟩:=hh.H.R k hlt;have hb':b'<wr.heap.size:=uL p0;have hk0:(0:Int)<=(k:Int):=by omega
   have hk1:(k:Int)<(x.regs.length:Int):=by omega
   have xa:=(Ext.refl wr).alloc (.cells #[iv x.regs[k].k,iv x.regs[k].n,iv x.regs[k].a] 152);have MY:=uU (a9h Q2 Q4 k hlt);clear hh;go_wp2_with fail;refine(a2w x x.regs[k] b _ bn on (HV.ext (hbl.trans xa)).f Q2 MY).mono ?_;rintro e w2 ⟨t,rfl,ht,hq⟩;have x2:=xa.trans hq;have HT:=uU ht;clear ht;go_wp2_with fail;refine(a7v x x.regs[k] w.heap.size (w.heap.size+2) b w.heap.size bn on t v Mt St _ (HW.ext x2) MY HT (hbl.trans x2).size hn8).mono ?_;rintro e w3 ⟨rfl,v',M',S',hw3,ha,hkf⟩
   have R:=uU (show eH w3 w.heap.size (w.heap.size+2) b w.heap.size bn on x.cells.length v' M' S'/\(a6k x M'/\a6m x (k+1) M'/\∀i,i∈M'->i∈S')/\Ext w w3 from
    ⟨hw3,⟨hinv.1.add ha (λe=>cY.reg k hlt e),λj hj hjk e=>by
     by_cases q:j=k
     ·subst q;exact ha.has e
     ·exact ha.sub.1 _ (hinv.2.1 j hj (by omega) e),λi hi=>by
     rcases ha.new hi with q | ⟨_,_,q⟩
     ·exact ha.sub.2 i (hinv.2.2 i q)
     ·exact q⟩,(HW.ext x2).kext hkf (hbl.trans x2)⟩)
   clear hw3 ha hkf;go_wp2_with fail;go_roundw
   case rel=>exact⟨k+1,v',M',S',by omega,by go_num,R.1,R.2.1,R.2.2⟩
   case measure=>simp [intOf];omega
  ·have hk2:k=x.regs.length:=by omega
   subst hk2;go_wp2_with fail;go_ret;exact⟨rfl,v,Mt,St,HW,hinv,hbl⟩
theorem sum_any(x:Hp)(b r1:Nat)(Mt:List Nat)(w:World)(bn on:Nat)(h:VNt w b x ar kr ac (some ⟨bn,on,none⟩) kn)(hm:zQ w r1 bn (Mt.map (λi=>on+i*2)))(hr:r1<w.heap.size)(hn8:x.cells.length<=8000)(h200:∀i,i<x.cells.length->(x.c i).prs.length<=200):
  Calls Tryz.prog 70 #[.pointer (some ⟨b,0,none⟩),.map (some r1)] w λe w'=>∃u:Nat,Hid (e=.returned (.int .i64 (u:Int)))/\Hid (u=qY x (λi=>decide (i∈Mt)) x.cells.length)/\Ext w w':=by
 have n13:=h.n13;have HV:=uU h;have HM:=uU hm;have HL:=uU (λk hk=>b3k (p:=λi=>decide (i∈Mt)) h200 k hk);clear h hm;go_enter Tryz.func70,Tryz.ntmps70;go_wp2_with fail;go_loopw [5,13] (λn i wr=>∃(k u:Nat),k<=x.cells.length/\i=.int .i64 k/\n=.int .i64 u/\Hid (u=qY x (λi=>decide (i∈Mt)) k)/\Ext w wr) (λ_ i _=>x.cells.length-(intOf i).toNat)
 case atStart=>exact⟨0,0,Nat.zero_le _,rfl,rfl,rfl,Ext.refl w⟩
 case round=>
  clear n13;obtain⟨k,u,hk,rfl,rfl,hu,hbl⟩:=hrel;have hul:u<=201*k:=by have:=uH hu;rw[this];exact HL k hk
  by_cases hlt:k<x.cells.length
  ·have hh:=HV.ext hbl;have n13:=hh.n13;have hl:=h200 k hlt;have hk0:(0:Int)<=(k:Int):=by omega
   have hk1:(k:Int)<(x.cells.length:Int):=by omega
   have M2:=uU (HM.block (hbl.block r1 hr));clear hh;go_wp2_with fail;refine(a5x r1 bn (on+k*2) _ _ M2).mono ?_;rintro e w1 ⟨rfl,hq⟩;have x2:=hbl.trans hq;clear n13;by_cases tp:k∈Mt
   ·have E:decide (on+k*2∈Mt.map (λi=>on+i*2))=true:=decide_eq_true (a4n.2 tp);rw[E];clear E;have U2:=uU (show u+(1+(x.c k).prs.length)=qY x (λi=>decide (i∈Mt)) (k+1) by have:=uH hu;simp only [qY,decide_eq_true tp];simp;omega);obtain⟨b',o,ap,kp,e1,p0,p1,p2,p3,p4,p5,p6,p7,lp,P⟩:=(HV.ext x2).H.cell k hlt;obtain⟨bn',on',bc,oc,e2,e3,m0,m1⟩:=(HV.ext x2).N k hlt;rw[e1] at e3;cases e2;cases e3;clear P p0 p1 p2 p3 p4 p5 p6 tp e1;go_wp2_with fail;refine(b5k (x.c k) bn (on+k*2) _ _ ap kp _ m1 p7 lp).mono ?_;rintro e w2 ⟨rfl,rfl⟩;go_wp2_with fail;go_roundw
    case rel=>exact⟨k+1,u+(1+(x.c k).prs.length),by omega,by go_num,by go_num,U2,x2⟩
    case measure=>simp [intOf];omega
   ·have E:decide (on+k*2∈Mt.map (λi=>on+i*2))=false:=decide_eq_false (λf=>tp (a4n.1 f));rw[E];clear E;have U2:=uU (show u=qY x (λi=>decide (i∈Mt)) (k+1) by have:=uH hu;simp only [qY,decide_eq_false tp];simp;exact this);clear tp;go_wp2_with fail;go_roundw
    case rel=>exact⟨k+1,u,by omega,by go_num,rfl,U2,x2⟩
    case measure=>simp [intOf];omega
  ·have hk2:k=x.cells.length:=by omega
   have U:=uU (show u=qY x (λi=>decide (i∈Mt)) x.cells.length by have:=uH hu;rw[hk2] at this;exact this);clear hk2;go_wp2_with fail;go_ret;exact⟨u,rfl,U,hbl⟩
def b9b(w:World)(g:Option Addr)(bw r1:Nat)(v:Value)(bn on:Nat)(Ls:List Nat):Prop:=∀k (h:k<Ls.length),∃gb go,g=some ⟨gb,go,none⟩/\w.cell? ⟨gb,go+k,none⟩=some (ptr bn (on+Ls[k]*2))/\gb≠bw/\gb≠r1/\v.ownBlock≠some gb
theorem b9b.step{g:Option Addr}(h:b9b w g bw r1 v bn on Ls)(f:KFr bw r1 v v' w w'):b9b w' g bw r1 v' bn on Ls:=λk hk=>by
 obtain⟨gb,go,a,c,d1,d2,d3⟩:=h k hk;have hl:gb<w.heap.size:=uL c;refine⟨gb,go,a,(World.cell?_of_block (a:=⟨gb,go+k,none⟩) (f.block gb hl d1 d2 d3)).trans c,d1,d2,λe=>?_⟩;rcases f.own with q | ⟨y,q,hy⟩
 ·rw[q] at e;exact d3 e
 ·rw[q] at e;cases e;omega
def b5u(x:Hp)(w w':World)(g:Option Addr)(bn on:Nat)(Ls:List Nat):Prop:=(∀k (h:k<Ls.length),∃gb go,g=some ⟨gb,go,none⟩/\w'.cell? ⟨gb,go+k,none⟩=some (ptr bn (on+Ls[k]*2))/\w.heap.size<=gb)/\Ls.length<=8000/\(∀i,i∈Ls↔i<x.cells.length/\cQ (x.c i))
theorem b5u.at{g:Option Addr}(h:b5u x w w' g bn on Ls)(k:eH w base bw bv r1 bn on x.cells.length v Mt St):b9b w' g bw r1 v bn on Ls:=λi hi=>by
 obtain⟨gb,go,a,c,d⟩:=h.1 i hi;have:=k.rlt;exact⟨gb,go,a,c,by omega,by omega,λe=>by have:=(k.s.lt gb e).2;omega⟩
theorem a9t(base bw bv r1 bn on n:Nat)(v:Value)(Mt St:List Nat)(w:World)(h:eH w base bw bv r1 bn on n v Mt St)(hn8:n<=8000):
  Calls Tryz.prog 122 #[.pointer (some ⟨bw,0,none⟩)] w λe w'=>∃t v' St',Hid (e=.returned t)/\eH w' base bw bv r1 bn on n v' Mt St'/\Hid ((t=.pointer none/\St=[]/\St'=[])\/∃j,t=ptr bn (on+j*2)/\St=St'++[j])/\KFr bw r1 v v' w w':=by
 rcases St.eq_nil_or_concat with q | ⟨S,j,q⟩
 ·subst q;exact(c5n base bw bv r1 bn on n v Mt w h).mono λ_ _ ⟨he,hw⟩=>by subst hw;exact⟨_,v,[],he,h,.inl ⟨rfl,rfl,rfl⟩,KFr.of_ext (Ext.refl _)⟩
 ·rw[List.concat_eq_append] at q;subst q;exact(c5o base bw bv r1 bn on n j v Mt S w h hn8).mono λ_ _ ⟨he,v',hw,hk⟩=>⟨_,v',S,he,hw,.inr ⟨j,rfl,rfl⟩,hk⟩
def LastN(x:Hp)(Mt:List Nat):Prop:=∀i,i<x.cells.length->cQ (x.c i)->i∈Mt
def a3w(x:Hp)(Mt:List Nat)(i l:Nat):Prop:=∀p,p<(x.c i).prs.length->p<l->(((x.c i).p p).key.k=2->tgt x ((x.c i).p p).key∈Mt)/\(((x.c i).p p).val.k=2->tgt x ((x.c i).p p).val∈Mt)
def b6w(x:Hp)(Mt:List Nat)(i:Nat):Prop:=a3w x Mt i (x.c i).prs.length
theorem a3w.sub{l:Nat}(h:a3w x Mt i l)(s:∀i,i∈Mt->i∈Mt'):a3w x Mt' i l:=λp h1 h2=>⟨λe=>s _ ((h p h1 h2).1 e),λe=>s _ ((h p h1 h2).2 e)⟩
structure a8b(x:Hp)(Mt St:List Nat)(cur:Option Nat):Prop where
 only:a6k x Mt
 regs:a6m x x.regs.length Mt
 last:LastN x Mt
 part:∀i,i∈Mt->i∈St\/cur=some i\/b6w x Mt i
theorem a8b.done(h:a8b x Mt [] none)(i:Nat):i∈Mt↔cY x i:=by
 constructor
 ·exact h.only i
 ·intro r
  have cl:∀j,j∈Mt->b6w x Mt j:=λj hj=>by
   rcases h.part j hj with q | q | q
   ·cases q
   ·cases q
   ·exact q
  exact r (λi=>i∈Mt) (λk hk hk2=>h.regs k hk hk hk2) (λi hi _ hsp=>h.last i hi hsp) (λj p ih hp hk=>(cl j ih p hp hp).1 hk) (λj p ih hp hk=>(cl j ih p hp hp).2 hk)
theorem a8b.add{cur:Option Nat}(h:a8b x Mt St cur)(a:b2c x y Mt Mt' St St')(hy:y.k=2->cY x (tgt x y)):a8b x Mt' St' cur:=
 ⟨h.only.add a hy,λj hj hjk e=>a.sub.1 _ (h.regs j hj hjk e),λi hi hs=>a.sub.1 _ (h.last i hi hs),λi hi=>by
  rcases a.new hi with q | ⟨_,_,q⟩
  ·rcases h.part i q with r | r | r
   ·exact .inl (a.sub.2 i r)
   ·exact .inr (.inl r)
   ·exact .inr (.inr (r.sub a.sub.1))
  ·exact .inl q⟩
theorem a8b.shut(h:a8b x Mt St (some j))(c:b6w x Mt j):a8b x Mt St none:=
 ⟨h.only,h.regs,h.last,λi hi=>by
  rcases h.part i hi with r | r | r
  ·exact .inl r
  ·cases r;exact .inr (.inr c)
  ·exact .inr (.inr r)⟩
theorem a8b.take(h:a8b x Mt (St++[j]) none):a8b x Mt St (some j):=
 ⟨h.only,h.regs,h.last,λi hi=>by
  rcases h.part i hi with r | r | r
  ·rcases List.mem_append.1 r with q | q
   ·exact .inl q
   ·simp at q;exact .inr (.inl (by rw[q]))
  ·cases r
  ·exact .inr (.inr r)⟩
theorem a6k.meet(h:a6k x Mt)(hi:cY x i)(a:(i∈Mt/\Mt'=Mt/\St'=St)\/(¬i∈Mt/\Mt'=Mt++[i]/\St'=St++[i])):a6k x Mt'/\(∀j,j∈Mt->j∈Mt')/\i∈Mt'/\((∀i,i∈Mt->i∈St)->(∀i,i∈Mt'->i∈St')):=by
 rcases a with⟨m,rfl,rfl⟩ | ⟨m,rfl,rfl⟩
 ·exact⟨h,λj hj=>hj,m,λq=>q⟩
 ·refine⟨λj hj=>?_,λj hj=>List.mem_append_left _ hj,by simp,λq j hj=>?_⟩
  ·rcases List.mem_append.1 hj with q | q
   ·exact h j q
   ·simp at q;rw[q];exact hi
  ·rcases List.mem_append.1 hj with r | r
   ·exact List.mem_append_left _ (q j r)
   ·exact List.mem_append_right _ r
def Cur(x:Hp)(n:Nat)(t:Value)(bn on gk:Nat)(Mt St:List Nat):Prop:=(t=.pointer none/\St=[]/\a8b x Mt [] none)\/∃j,t=ptr bn (on+j*2)/\j∈Mt/\a8b x Mt St (some j)/\2*(n-Mt.length)+St.length+1<=gk
theorem b9c(x:Hp)(b:Nat)(w:World)(bn on:Nat)(h:VNt w b x ar kr ac (some ⟨bn,on,none⟩) kn)(r2:R2 x)(r4:R4 x)(hn8:x.cells.length<=8000)(h200:∀i,i<x.cells.length->(x.c i).prs.length<=200)
  (hsp:∀w1,VNt w1 b x ar kr ac (some ⟨bn,on,none⟩) kn->Calls Tryz.prog 102 #[.pointer (some ⟨b,0,none⟩)] w1 λe w'=>∃(g:Option Addr) (cap:Nat) (Ls:List Nat),Hid (e=.returned (.slice g Ls.length cap))/\Hid (b5u x w1 w' g bn on Ls)/\Ext w1 w') :
  Calls Tryz.prog 71 #[.pointer (some ⟨b,0,none⟩)] w λe w'=>e=.returned (Value.map (some w.heap.size))/\∃Mt:List Nat,zQ w' w.heap.size bn (Mt.map (λi=>on+i*2))/\w.heap.size<w'.heap.size/\Hid (∀i,i∈Mt↔cY x i)/\Ext w w':=by
 have HV:=uU h;have Q2:=uU r2;have Q4:=uU r4;have SP:=uU hsp;clear h r2 r4 hsp;go_enter Tryz.func71,Tryz.ntmps71;go_wp2_with fail;refine(c8h x b _ bn on HV Q2 Q4 hn8).mono ?_;rintro e w1 ⟨rfl,v1,M1,S1,hw1,i1,x1⟩;have W1:=uU hw1;clear hw1;go_wp2_with fail;refine(SP _ (HV.ext x1)).mono ?_;rintro e w2 ⟨g,cap,Ls,rfl,hans,x12⟩;have x2:=x1.trans x12;have A0:=uU (And.intro (W1.ext x12) (hans.at W1));have hLs:Ls.length<=8000:=hans.2.1;have LI:=uU hans.2.2;clear W1 hans x12;go_wp2_with fail;go_loopw [14] (λi wr=>∃(k:Nat) (v:Value) (Mt St:List Nat),k<=Ls.length/\i=.int .i64 k/\eH wr w.heap.size (w.heap.size+2) b w.heap.size bn on x.cells.length v Mt St/\Hid (a6k x Mt/\a6m x x.regs.length Mt/\(∀i,i∈Mt->i∈St)/\∀j (h:j<Ls.length),j<k->Ls[j]∈Mt)/\Hid (b9b wr g (w.heap.size+2) w.heap.size v bn on Ls)/\Ext w wr) (λi _=>Ls.length-(intOf i).toNat)
 case atStart=>exact⟨0,v1,M1,S1,Nat.zero_le _,rfl,A0.1,⟨i1.1,i1.2.1,i1.2.2,λj _ hj=>by omega⟩,A0.2,x2⟩
 case round=>
  clear A0 i1 x1 x2;obtain⟨k,v,Mt,St,hk,rfl,hw,hinv,hsa,hbl⟩:=hrel;have HW:=uU hw;clear hw;by_cases hlt:k<Ls.length
  ·obtain⟨gb,go,hg,gc,g1,g2,g3⟩:=hsa k hlt;subst hg;have hk0:(0:Int)<=(k:Int):=by omega
   have hk1:(k:Int)<(Ls.length:Int):=by omega
   have HI:=uU ((LI Ls[k]).1 (List.getElem_mem hlt));clear g1 g2 g3;go_wp2_with fail;refine(a9s w.heap.size (w.heap.size+2) b w.heap.size bn on x.cells.length Ls[k] v Mt St _ HW HI.1 hbl.size hn8).mono ?_;rintro e w3 ⟨rfl,v',M',S',hw3,ha,hkf⟩
   have R:=uU (show eH w3 w.heap.size (w.heap.size+2) b w.heap.size bn on x.cells.length v' M' S'/\(a6k x M'/\a6m x x.regs.length M'/\(∀i,i∈M'->i∈S')/\∀j (h:j<Ls.length),j<k+1->Ls[j]∈M')/\b9b w3 (some ⟨gb,go,none⟩) (w.heap.size+2) w.heap.size v' bn on Ls/\Ext w w3 from by
    have hq:=hinv.1.meet (cY.last Ls[k] HI.1 (a0x Q2 _ HI.1 HI.2) HI.2) ha;refine⟨hw3,⟨hq.1,λj hj hjk e=>hq.2.1 _ (hinv.2.1 j hj hjk e),hq.2.2.2 hinv.2.2.1,λj hj hjk=>?_⟩,hsa.step hkf,HW.kext hkf hbl⟩;by_cases q:j=k
    ·subst q;exact hq.2.2.1
    ·exact hq.2.1 _ (hinv.2.2.2 j hj (by omega)))
   clear hw3 ha hkf gc;go_wp2_with fail;go_roundw
   case rel=>exact⟨k+1,v',M',S',by omega,by go_num,R.1,R.2.1,R.2.2.1,R.2.2.2⟩
   case measure=>simp [intOf];omega
  ·have hk2:k=Ls.length:=by omega
   have I0:=uU (show a8b x Mt St none from⟨hinv.1,hinv.2.1,λi hi hs=>by
    obtain⟨j,hj,e⟩:=List.getElem_of_mem ((LI i).2 ⟨hi,hs⟩);have:=hinv.2.2.2 j hj (by omega);rw[e] at this;exact this,λi hi=>.inl (hinv.2.2.1 i hi)⟩)
   clear hinv hsa LI hk2;go_wp2_with fail;refine(a9t w.heap.size (w.heap.size+2) b w.heap.size bn on x.cells.length v Mt St _ HW hn8).mono ?_;rintro e w3 ⟨t,v3,S3,rfl,hw3,ht,hkf⟩;have hle:=HW.len
   have R:=uU (show eH w3 w.heap.size (w.heap.size+2) b w.heap.size bn on x.cells.length v3 Mt S3/\Cur x x.cells.length t bn on (3*x.cells.length+1) Mt S3/\Ext w w3 from by
    refine⟨hw3,?_,HW.kext hkf hbl⟩;rcases uH ht with⟨e,e1,e2⟩ | ⟨j,e,e1⟩
    ·have:=uH I0;rw[e1] at this;exact .inl ⟨e,e2,this⟩
    ·have hI:=uH I0;rw[e1] at hI;have hl:=hw3.len;exact .inr ⟨j,e,HW.sub j (by rw[e1];simp),hI.take,by omega⟩)
   clear hw3 ht hkf HW I0 hle hbl;go_wp2_with fail
   go_loopg [6] (3*x.cells.length+1) (λgk t wr=>∃(v:Value) (Mt St:List Nat),eH wr w.heap.size (w.heap.size+2) b w.heap.size bn on x.cells.length v Mt St/\Hid (Cur x x.cells.length t bn on gk Mt St)/\Ext w wr)
   case atStart=>exact⟨v3,Mt,S3,R.1,R.2.1,R.2.2⟩
   case round=>
    clear R;obtain⟨v,Mt,St,hw,hcur,hbl⟩:=hrel;have HW:=uU hw;rcases uH hcur with⟨rfl,rfl,hI⟩ | ⟨j,rfl,hj,hI,hgk⟩
    ·have c1:=hw.c1;have F:=uU (And.intro hw.m (And.intro hw.rlt.2 hI.done));clear hw hcur hI;go_wp2_with fail;go_ret;exact⟨rfl,Mt,F.1,F.2.1,F.2.2,hbl⟩
    ·have hjn:j<x.cells.length:=hw.rg j hj;have GD:=uU ((hI.only j hj).good Q2 Q4);have RJ:=uU (hI.only j hj);obtain⟨bc,oc,ap,kp,e1,C⟩:=HV.H.cell j hjn;obtain⟨bn',on',bc',oc',e2,e3,m0,m1'⟩:=HV.N j hjn;rw[e1] at e3;cases e2;cases e3;have p7:=hbl.keep C.p7;have m1:=hbl.keep m1';have lp:=C.lp;have h2:=h200 j hjn;have HP:=uU C.P;have I1:=uU (And.intro hI hgk);have B0:=uU hbl;obtain⟨WO,hWO⟩:∃W,W=wr:=⟨_,rfl⟩;subst hWO;clear C m0 m1' hw hcur hI hgk e1 hbl;go_wp2_with fail;go_loopw [36] (λi wi=>∃(l:Nat) (v:Value) (Mt St:List Nat),l<=(x.c j).prs.length/\i=.int .i64 l/\eH wi w.heap.size (w.heap.size+2) b w.heap.size bn on x.cells.length v Mt St/\Hid (a8b x Mt St (some j)/\a3w x Mt j l/\2*(x.cells.length-Mt.length)+St.length+1<=gk)/\Ext w wi) (λi _=>(x.c j).prs.length-(intOf i).toNat)
     case atStart=>exact⟨0,v,Mt,St,Nat.zero_le _,rfl,HW,⟨I1.1,(λp _ h=>by omega),I1.2⟩,B0⟩
     case round=>
      clear HW I1 B0 p7 m1 hj;clear v Mt St;obtain⟨l,v,Mt,St,hl,rfl,hw,hinv,hbl⟩:=hrel;have HW:=uU hw;clear hw;by_cases hl2:l<(x.c j).prs.length
      ·obtain⟨b2,o2,rfl,q0,q1,q2,q3,q4,q5⟩:=uH HP l hl2;have e0:=hbl.keep q0;have e1:=hbl.keep q1;have e2:=hbl.keep q2;have e3:=hbl.keep q3;have e4:=hbl.keep q4;have e5:=hbl.keep q5;have hb2:b2<wr.heap.size:=uL e0;clear q0 q1 q2 q3 q4 q5;have hl0:(0:Int)<=(l:Int):=by omega
       have hl1:(l:Int)<((x.c j).prs.length:Int):=by omega
       have xa:=(Ext.refl wr).alloc (.cells #[.int .i64 ((x.c j).p l).key.k,.int .i64 ((x.c j).p l).key.n,.int .i64 ((x.c j).p l).key.a,.int .i64 ((x.c j).p l).val.k,.int .i64 ((x.c j).p l).val.n,.int .i64 ((x.c j).p l).val.a] 154);have MK:=uU (a4d Q2 Q4 j l GD hl2);go_wp2_with fail;refine(a2w x ((x.c j).p l).key b _ bn on (HV.ext (hbl.trans xa)).f Q2 MK.1).mono ?_;rintro e w2 ⟨t2,rfl,ht2,hq2⟩;have x2:=xa.trans hq2;have HT:=uU ht2;have u:=λ(o:Nat) (v:Value) (hc:(wr.alloc (.cells #[.int .i64 ((x.c j).p l).key.k,.int .i64 ((x.c j).p l).key.n,.int .i64 ((x.c j).p l).key.a,.int .i64 ((x.c j).p l).val.k,.int .i64 ((x.c j).p l).val.n,.int .i64 ((x.c j).p l).val.a] 154)).cell? ⟨wr.heap.size,o,none⟩=some v)=>hq2.keep hc
       have u3:=u 3 _ (by simp [go_sem];rfl);have u4:=u 4 _ (by simp [go_sem];rfl);have u5:=u 5 _ (by simp [go_sem];rfl);clear u ht2 e0 e1 e2 e3 e4 e5 hq2;go_wp2_with fail;refine(a7v x ((x.c j).p l).key w.heap.size (w.heap.size+2) b w.heap.size bn on t2 v Mt St _ (HW.ext x2) MK.1 HT (hbl.trans x2).size hn8).mono ?_;rintro e w3 ⟨rfl,v3,M3,S3,hw3,ha3,hk3⟩;have hlt2:wr.heap.size<w2.heap.size:=uL u3
       have sep:wr.heap.size≠w.heap.size+2/\wr.heap.size≠w.heap.size/\v.ownBlock≠some wr.heap.size:=by
        have:=HW.rlt;exact⟨by omega,by omega,λe=>by have:=(HW.s.lt _ e).2;omega⟩
       have kb:=hk3.block wr.heap.size hlt2 sep.1 sep.2.1 sep.2.2;have y3:=(World.cell?_of_block (a:=⟨wr.heap.size,3,none⟩) kb).trans u3;have y4:=(World.cell?_of_block (a:=⟨wr.heap.size,4,none⟩) kb).trans u4;have y5:=(World.cell?_of_block (a:=⟨wr.heap.size,5,none⟩) kb).trans u5;have B3:=(HW.ext x2).kext hk3 (hbl.trans x2);have W3:=uU hw3;have A3:=uU (And.intro (hinv.1.add ha3 (λe=>cY.key j l RJ hl2 e)) (And.intro (hinv.2.1.sub ha3.sub.1) (And.intro (ha3.has) (show 2*(x.cells.length-M3.length)+S3.length+1<=gk by have:=ha3.weigh;have:=hinv.2.2;have:=hw3.len;omega))));clear hw3 ha3 hk3 u3 u4 u5 kb sep hlt2 hinv HW HT x2 xa;go_wp2_with fail;refine(a2w x ((x.c j).p l).val b _ bn on (HV.ext B3).f Q2 MK.2).mono ?_;rintro e w4 ⟨t4,rfl,ht4,hq4⟩;have HT:=uU ht4;clear ht4;go_wp2_with fail;refine(a7v x ((x.c j).p l).val w.heap.size (w.heap.size+2) b w.heap.size bn on t4 v3 M3 S3 _ (W3.ext hq4) MK.2 HT (B3.trans hq4).size hn8).mono ?_;rintro e w5 ⟨rfl,v5,M5,S5,hw5,ha5,hk5⟩;have B5:=(W3.ext hq4).kext hk5 (B3.trans hq4);have W5:=uU hw5
       have A5:=uU (show a8b x M5 S5 (some j)/\a3w x M5 j (l+1)/\2*(x.cells.length-M5.length)+S5.length+1<=gk from
        ⟨A3.1.add ha5 (λe=>cY.val j l RJ hl2 e),λp hp hpl=>by
         by_cases q:p=l
         ·subst q;exact⟨λe=>ha5.sub.1 _ (A3.2.2.1 e),ha5.has⟩
         ·exact(A3.2.1.sub ha5.sub.1) p hp (by omega),by have:=ha5.weigh;have:=A3.2.2.2;have:=hw5.len;omega⟩)
       clear hw5 ha5 hk5 y3 y4 y5 A3 W3 hq4 B3 HT;go_wp2_with fail;go_roundw
       case rel=>exact⟨l+1,v5,M5,S5,by omega,by go_num,W5,A5,B5⟩
       case measure=>simp [intOf];omega
      ·have hl3:l=(x.c j).prs.length:=by omega
       have I2:=uU (And.intro (hinv.1.shut (by have:=hinv.2.1;rw[hl3] at this;exact this)) hinv.2.2);clear hl3 hinv;go_wp2_with fail;refine(a9t w.heap.size (w.heap.size+2) b w.heap.size bn on x.cells.length v Mt St _ HW hn8).mono ?_;rintro e w3 ⟨t,v3,S3,rfl,hw3,ht,hkf⟩;obtain⟨gk',hgk⟩:∃g,gk=g+1:=⟨gk-1,by have:=I2.2;omega⟩
       have R:=uU (show eH w3 w.heap.size (w.heap.size+2) b w.heap.size bn on x.cells.length v3 Mt S3/\Cur x x.cells.length t bn on gk' Mt S3/\Ext w w3 from by
        refine⟨hw3,?_,HW.kext hkf hbl⟩;have hI:=uH I2;rcases uH ht with⟨e,e1,e2⟩ | ⟨j,e,e1⟩
        ·rw[e1] at hI;exact .inl ⟨e,e2,hI.1⟩
        ·have hm:j∈Mt:=HW.sub j (by rw[e1];simp);rw[e1] at hI;have hl:=hI.2;simp only [List.length_append,List.length_singleton] at hl;exact .inr ⟨j,e,hm,hI.1.take,by omega⟩)
       have G:=uU hgk;clear hw3 ht hkf HW I2 hbl hgk;go_wp2_with fail
       go_roundg gk'
       case measure=>have:=uH G;omega
       case rel=>exact⟨v3,Mt,S3,R.1,R.2.1,R.2.2⟩
theorem b9d(x y:Int)(bn q1 q2 bc bd r1 r2:Nat)(W:World)(m1:W.cell? ⟨bn,q1+1,none⟩=some (ptr bc r1))(c1:W.cell? ⟨bc,r1+4,none⟩=some (iv x))(m2:W.cell? ⟨bn,q2+1,none⟩=some (ptr bd r2))(c2:W.cell? ⟨bd,r2+4,none⟩=some (iv y)):
  Calls Tryz.prog 168 #[ptr bn q1,ptr bn q2] W λe w'=>e=.returned (.int .i64 (Lib.compareInt x y))/\∃q,w'=W.drewN q:=by
 have hcon:=λW=>AnyG.cmp_Compare_int Tryz.cmpL x y W
 change ∀W,Calls Tryz.prog 169 _ _ _ at hcon;generalize Lib.compareInt x y=r at hcon ⊢;have HC:=uU hcon;clear hcon;go_enter Tryz.func168,Tryz.ntmps168;go_wp2_with fail;go_quiet ((go_at_call 169;exact Calls.quiet_of_same (HC _)));go_wp2_with fail;go_ret;exact⟨rfl,_,rfl⟩
end Go.Proofs.YtddkhnclmeikfaaGreat
namespace Go.Proofs.YtddkhnclmeikfaaGreat
open Go.RowKit Go.Lib Go.Sort Go.Shelf
attribute [local go_sem ↓] Go.wp_at_zero Go.wp_at_succ
variable{n i:Nat}
def clN(n i:Nat):Nat:=if i<n then i else 0
theorem b6x(h:i<n):clN n i=i:=by simp [clN,h]
theorem c1s(h:0<n):clN n i<n:=by unfold clN;split <;> omega
def b9e(bn on n i:Nat):Value:=ptr bn (on+clN n i*2)
def cfN(x:Hp)(i j:Nat):Int:=Lib.compareInt (x.c (clN x.cells.length i)).born (x.c (clN x.cells.length j)).born
theorem ltN(x:Hp)(i j:Nat):ltOf (cfN x) i j=decide ((x.c (clN x.cells.length i)).born<(x.c (clN x.cells.length j)).born):=by
 unfold ltOf cfN Lib.compareInt;by_cases h1:(x.c (clN x.cells.length i)).born<(x.c (clN x.cells.length j)).born
 ·simp [h1]
 ·by_cases h2:(x.c (clN x.cells.length j)).born<(x.c (clN x.cells.length i)).born <;> simp [h1,h2]
theorem swoN(x:Hp):SWO (ltOf (cfN x)):={
 irrefl:=λi=>by rw[ltN];simp
 trans:=λi j k h1 h2=>by rw[ltN] at *;simp at *;omega
 ntrans:=λi j k h1 h2=>by rw[ltN] at *;simp at *;omega }
theorem a8t{α:Type}[Inhabited α](enc:α->Value)(w:World)(blk off m k:Nat)(d:Array α)(os:Array Obj)(hk:k≠blk)(hks:k<w.heap.size):(sortWorld enc w blk off m d os).heap[k]?=w.heap[k]?:=by
 have hs:(putRow enc (Sort.ahead w m) blk off d).heap.size=w.heap.size:=by simp [putRow,mapBlock,Sort.ahead]
 show((putRow enc (Sort.ahead w m) blk off d).heap++os)[k]?=w.heap[k]?;rw[Array.getElem?_append_left (by omega)];show(w.heap.modify blk _)[k]?=w.heap[k]?;rw[Array.getElem?_modify,if_neg (by omega)]
theorem c1t{α:Type}[Inhabited α](enc:α->Value)(w:World)(blk off m base:Nat)(d:Array α)(os:Array Obj)(hb:base<=blk)(hbs:base<=w.heap.size):Go.RowKit.Below base w (sortWorld enc w blk off m d os):=by
 have hs:(putRow enc (Sort.ahead w m) blk off d).heap.size=w.heap.size:=by simp [putRow,mapBlock,Sort.ahead]
 refine⟨rfl,rfl,rfl,?_,λk hk=>a8t enc w blk off m k d os (by omega) (by omega)⟩;simp [sortWorld,grow,hs]
def SrtN(x:Hp)(L:List Nat):Prop:=∀i j (hi:i<L.length) (hj:j<L.length),i<j->(x.c L[i]).born<=(x.c L[j]).born
theorem c5p(x:Hp)(b base g cap:Nat)(Ls:List Nat)(w:World){ar:Option Addr}{kr:Nat}{ac:Nat->Option Addr}{kn:Nat}(bn on:Nat)(h:VNt w b x ar kr ac (some ⟨bn,on,none⟩) kn)(hbn:∀i,i<x.cells.length->∃bc oc,ac i=some ⟨bc,oc,none⟩/\bc<base/\bn<base)(hL:∀i,i∈Ls->i<x.cells.length)(hne:0<x.cells.length)(h8:Ls.length<=8000)
  (hc:∀j (hj:j<Ls.length),w.cell? ⟨g,j,none⟩=some (ptr bn (on+Ls[j]*2))/\w.frozen? ⟨g,j,none⟩=false) (hg:base<=g) (hgs:g<w.heap.size) (hbs:base<=w.heap.size) :
  Calls Tryz.prog 167 #[.slice (some ⟨g,0,none⟩) Ls.length cap,.func (.func 168) #[] #[]] w λe w'=>e=.returned (.tuple #[])/\∃Ls',Hid (List.Perm Ls' Ls)/\Hid (∀j (hj:j<Ls'.length),w'.cell? ⟨g,j,none⟩=some (ptr bn (on+Ls'[j]*2)))/\Hid (SrtN x Ls')/\Go.RowKit.Below base w w':=by
 have eg:∀args w,(callFunc 168 args).run Tryz.prog w=.ok (.enter 168 args) w:=enters_of Tryz.func168 (by kernel_rfl) rfl
 have hH:Holds (b9e bn on x.cells.length) w g 0 Ls.toArray:=λj hj=>by
  have hj':j<Ls.length:=by simpa using hj
  have:=hc j hj';rw[getElem!_pos _ j hj];simp only [Nat.zero_add,b9e,List.getElem_toArray];rw[b6x (hL _ (List.getElem_mem hj'))];exact this
 have hR:CmpReads Tryz.prog 168 #[] (b9e bn on x.cells.length) (cfN x) g 0 Ls.toArray.size w:=λm os dk hdk i j=>by
  have key:∀i,∃bc oc,(sortWorld (b9e bn on x.cells.length) w g 0 m dk os).cell? ⟨bn,on+clN x.cells.length i*2+1,none⟩=some (ptr bc oc)/\(sortWorld (b9e bn on x.cells.length) w g 0 m dk os).cell? ⟨bc,oc+4,none⟩=some (iv (x.c (clN x.cells.length i)).born):=λi=>by
   obtain⟨bc,oc,e0,l1,l2⟩:=hbn _ (c1s (i:=i) hne);obtain⟨bn',on',bc',oc',a1,a2,_,a3⟩:=h.N _ (c1s (i:=i) hne);obtain⟨bc2,oc2,ap,kp,a4,C⟩:=h.H.cell _ (c1s (i:=i) hne);rw[e0] at a2 a4;cases a1;cases a2;cases a4;exact⟨bc,oc,(World.cell?_of_block (w:=w) (a:=⟨bn,_,none⟩) (a8t _ _ _ _ _ bn _ _ (by omega) (by omega))).trans a3,(World.cell?_of_block (w:=w) (a:=⟨bc,_,none⟩) (a8t _ _ _ _ _ bc _ _ (by omega) (by omega))).trans C.p4⟩
  obtain⟨bc,oc,k1,k2⟩:=key i;obtain⟨bd,od,k3,k4⟩:=key j;exact b9d _ _ bn _ _ bc bd _ _ _ k1 k2 k3 k4
 have hS:=Any.slices_SortFunc Tryz.sortL (b9e bn on x.cells.length) (λ_=>rfl) (cfN x) (swoN x) 168 #[] g 0 cap Ls.toArray w eg hR.lays hH hgs (by simp;omega);change Calls Tryz.prog 167 _ _ _ at hS;refine hS.mono λe w' ⟨he,d',n,os,hp,hsd,hw⟩=>⟨he,d'.toList,?_,?_,?_,?_⟩
 ·obtain⟨q1,_,q3⟩:=hp;have e1:d'.extract 0 Ls.toArray.size=d':=by rw[<-q1];simp
  have e2:Ls.toArray.extract 0 Ls.toArray.size=Ls.toArray:=by simp
  rw[e1,e2] at q3;exact q3
 ·obtain⟨q1,_,q3⟩:=hp;have e1:d'.extract 0 Ls.toArray.size=d':=by rw[<-q1];simp
  have e2:Ls.toArray.extract 0 Ls.toArray.size=Ls.toArray:=by simp
  rw[e1,e2] at q3;intro j hj;have hj':j<d'.size:=by simpa using hj
  have:=(holds_sortWorld (b9e bn on x.cells.length) w g 0 n Ls.toArray d' os hgs hH q1 j hj').1;rw[getElem!_pos _ j hj',<-hw] at this;simp only [Nat.zero_add,b9e] at this;rw[b6x (hL _ (q3.mem_iff.1 (Array.getElem_mem_toList hj')))] at this
  simpa using this
 ·obtain⟨q1,_,q3⟩:=hp;have e1:d'.extract 0 Ls.toArray.size=d':=by rw[<-q1];simp
  have e2:Ls.toArray.extract 0 Ls.toArray.size=Ls.toArray:=by simp
  rw[e1,e2] at q3;intro i j hi hj hij;have hi':i<d'.size:=by simpa using hi
  have hj':j<d'.size:=by simpa using hj
  have:=hsd i j (Nat.zero_le _) hij (by omega);rw[getElem!_pos _ i hi',getElem!_pos _ j hj',ltN,b6x (hL _ (q3.mem_iff.1 (Array.getElem_mem_toList hi'))),b6x (hL _ (q3.mem_iff.1 (Array.getElem_mem_toList hj')))] at this;simp at this
  simpa using this
 ·rw[hw];exact c1t _ _ _ _ _ _ _ _ hg hbs
end Go.Proofs.YtddkhnclmeikfaaGreat
namespace Go.Proofs.YtddkhnclmeikfaaGreat
open Go.RowKit
attribute [local go_sem ↓] Go.wp_at_zero Go.wp_at_succ
variable{x:Hp}{Mt St M2 S2 Mt' St' M3 S3 M S M1 S1 M' S':List Nat}{k j i base l kr kn n bw r1 r2 bn on:Nat}{Q:Nat->Prop}{w w2 w':World}{v:Value}{ar:Option Addr}{ac:Nat->Option Addr}
theorem c5q(p:Option Addr)(cap:Nat)(w:World):
  Calls Tryz.prog 167 #[.slice p 0 cap,.func (.func 168) #[] #[]] w λe w'=>e=.returned (.tuple #[])/\w'=w:=
 AnyF.slices_SortFunc_none (P:=Tryz.prog) (ρ:=Tryz.sortL_ren) { Tryz.sortL with } p cap (.func (.func 168) #[] #[]) w
theorem c8i(x:Hp)(b base:Nat)(v:Value)(Ls:List Nat)(w:World)(bn on:Nat)(h:VNt w b x ar kr ac (some ⟨bn,on,none⟩) kn)(hbn:∀i,i<x.cells.length->∃bc oc,ac i=some ⟨bc,oc,none⟩/\bc<base/\bn<base)(hL:∀i,i∈Ls->i<x.cells.length)(h8:Ls.length<=8000)
  (hv:w.ownsRow base 126 1 v Ls.length (Ls.map (λi=>ptr bn (on+i*2)))) (hbs:base<=w.heap.size) :
  Calls Tryz.prog 167 #[v,.func (.func 168) #[] #[]] w λe w'=>e=.returned (.tuple #[])/\Hid (∃g cap Ls',v=.slice g Ls'.length cap/\List.Perm Ls' Ls/\(∀j (hj:j<Ls'.length),∃gb go,g=some ⟨gb,go,none⟩/\w'.cell? ⟨gb,go+j,none⟩=some (ptr bn (on+Ls'[j]*2))/\base<=gb)/\SrtN x Ls')/\Below base w w':=by
 by_cases h0:Ls=[]
 ·subst h0
  obtain⟨p,cap,rfl⟩:∃p cap,v=.slice p 0 cap:=by
   rcases hv.2 with⟨e,_⟩ | ⟨g,cap,cur,e,_⟩
   ·exact⟨none,0,e⟩
   ·exact⟨_,_,e⟩
  exact(c5q p cap w).mono λ_ _ ⟨he,hw⟩=>by subst hw;exact⟨he,⟨p,cap,[],rfl,List.Perm.refl _,(λj hj=>by simp at hj),λi j hi=>by simp at hi⟩,Below.refl _ _⟩
 ·have hpos:0<Ls.length:=List.length_pos_iff.2 h0;rcases hv.2 with⟨_,e⟩ | ⟨g,cap,cur,rfl,hg,hb,_⟩
  ·omega
  ·have hgs:g<w.heap.size:=by
    rcases Nat.lt_or_ge g w.heap.size with q | q
    ·exact q
    ·rw[Array.getElem?_eq_none q] at hb;cases hb
   have hne:0<x.cells.length:=by have:=hL _ (List.getElem_mem hpos);omega
   have hc:∀j (hj:j<Ls.length),w.cell? ⟨g,j,none⟩=some (ptr bn (on+Ls[j]*2))/\w.frozen? ⟨g,j,none⟩=false:=λj hj=>by
    refine⟨?_,World.ownsRow.frozenAt hv j⟩;rw[World.ownsRow.cellAt hv j (by omega)];simp [List.getElem?_eq_getElem hj]
   exact(c5p x b base g cap Ls w bn on h hbn hL hne h8 hc hg hgs hbs).mono λ_ w' ⟨he,L',hp,hc',hsr,hbl⟩=>⟨he,⟨some ⟨g,0,none⟩,cap,L',by rw[hp.length_eq],hp,λj hj=>⟨g,0,rfl,by rw[Nat.zero_add];exact hc' j hj,hg⟩,hsr⟩,hbl⟩
def spk(x:Hp)(k:Nat):List Nat:=(List.range k).filter (λi=>a0q (x.c i))
theorem spk_no(h:a0q (x.c k)=false):spk x (k+1)=spk x k:=by simp [spk,List.range_succ,List.filter_append,h]
theorem spk_yes(h:a0q (x.c k)=true):spk x (k+1)=spk x k++[k]:=by simp [spk,List.range_succ,List.filter_append,h]
theorem spk_len(x:Hp)(k:Nat):(spk x k).length<=k:=by have:=List.length_filter_le (λi=>a0q (x.c i)) (List.range k);simpa [spk] using this
theorem c3k:i∈spk x k↔i<k/\cQ (x.c i):=by simp [spk,a3e]
theorem row_ext{a:World}{T:TypeId}{vs:List Value}{o:Obj}(h:w.ownsRow a.heap.size T 1 v n vs)(e:Ext a w)(hg:(w.alloc o).grownBy w2 v.ownBlock):Ext a w2:=by
 have hs:w.heap.size+1<=w2.heap.size:=by have:=hg.size;simpa using this
 refine Below.trans e ⟨hg.os,hg.tape,hg.output,by omega,λk hk=>?_⟩;have hkw:k<w.heap.size:=Nat.lt_of_lt_of_le hk e.size;rw[hg.block k (by simp;omega) (λf=>by have:=(h.lt k f.symm).1;omega),Below.heap_alloc _ o k hkw]
theorem a9u(x:Hp)(b:Nat)(w:World){ar:Option Addr}{kr:Nat}{ac:Nat->Option Addr}{kn:Nat}(bn on:Nat)(h:VNt w b x ar kr ac (some ⟨bn,on,none⟩) kn)(hn8:x.cells.length<=8000):
  Calls Tryz.prog 102 #[.pointer (some ⟨b,0,none⟩)] w λe w'=>∃(g:Option Addr) (cap:Nat) (Ls:List Nat),Hid (e=.returned (.slice g Ls.length cap))/\Hid (b5u x w w' g bn on Ls)/\Hid (SrtN x Ls/\Ls.Perm (spk x x.cells.length))/\Ext w w':=by
 obtain⟨i0,hi0,hy0,hy1,hy2⟩:=info_parts b0u;have n13:=h.n13;have HV:=uU h;clear h;go_enter Tryz.func102,Tryz.ntmps102;go_wp2_with fail;go_loopw [3,10] (λv i wr=>∃(k:Nat),k<=x.cells.length/\i=.int .i64 k/\Hid (wr.ownsRow w.heap.size 126 1 v (spk x k).length ((spk x k).map (λi=>ptr bn (on+i*2))))/\Ext w wr) (λ_ i _=>x.cells.length-(intOf i).toNat)
 case atStart=>exact⟨0,Nat.zero_le _,rfl,World.ownsRow_nil _ _ _ _,Ext.refl w⟩
 case round=>
  clear n13;obtain⟨k,hk,rfl,hrw,hbl⟩:=hrel;have hlen:=spk_len x k;by_cases hlt:k<x.cells.length
  ·have hh:=HV.ext hbl;have n13:=hh.n13;obtain⟨bc,oc,ap,kp,e1,C⟩:=hh.H.cell k hlt;obtain⟨bn',on',bc',oc',e2,e3,m0,m1⟩:=hh.N k hlt;rw[e1] at e3;cases e2;cases e3;have HC:=uU C;have hb0:b<wr.heap.size:=uL n13;have hk0:(0:Int)<=(k:Int):=by omega
   have hk1:(k:Int)<(x.cells.length:Int):=by omega
   clear hh C m0 e1;go_wp2_with fail;refine(a2s (x.c k) bn (on+k*2) bc oc ap kp _ m1 HC).mono ?_;rintro e w1 ⟨rfl,rfl⟩;clear m1 HC;cases t:a0q (x.c k)
   ·have R:=uU (show _ from spk_no t ▸ uH hrw);clear t;go_wp2_with fail;go_roundw
    case rel=>exact⟨k+1,by omega,by go_num,R,hbl⟩
    case measure=>simp [intOf];omega
   ·have T:=uU t;clear t;go_wp2_with (at_builtin;refine wpList_append_lies _ rfl _ _ 130 rfl w.heap.size 126 i0 (.pointer none) 1 8 Tryz.underlying130 hi0 hy0 hy1 hy2 rfl (by decide) _ (spk x k).length ((spk x k).map (λi=>ptr bn (on+i*2))) rfl (hrw.alloc _) _ 1 1 [ptr bn (on+k*2)] rfl rfl ?c1 ?c2 (by decide) ?c3 ?c4 ?c5 _ rfl ?_)
    case c1=>
     intro j u hj
     match j,hj with
     | 0,hj=>simp at hj;subst hj;simp [Addr.add]
    case c2=>intro u hu;simp at hu;subst hu;rfl
    case c3=>unfold maxLen;omega
    case c4=>have:=hbl.size;simp;omega
    case c5=>have:=hbl.size;simp;omega
    intro g cap w2 hown hgrow hat hglt;have R:=uU (And.intro (show w2.ownsRow w.heap.size 126 1 (.slice (some ⟨g,0,none⟩) ((spk x k).length+1) cap) (spk x (k+1)).length ((spk x (k+1)).map (λi=>ptr bn (on+i*2))) by rw[spk_yes (uH T)];simpa using hown) (row_ext hrw hbl hgrow));clear hown hgrow hat hglt;go_wp2_with fail;go_roundw
    case rel=>exact⟨k+1,by omega,by go_num,R.1,R.2⟩
    case measure=>simp [intOf];omega
  ·have hk2:k=x.cells.length:=by omega
   subst hk2;have VB:=uU (HV.ext hbl)
   have BB:=uU (show ∀i,i<x.cells.length->∃bc oc,ac i=some ⟨bc,oc,none⟩/\bc<w.heap.size/\bn<w.heap.size from λi hi=>by
    obtain⟨bn',on',bc,oc,e1,e2,m0,_⟩:=HV.N i hi;obtain⟨bc2,oc2,ap,kp,e3,C⟩:=HV.H.cell i hi;rw[e2] at e3;cases e1;cases e3;exact⟨bc,oc,e2,uL C.p0,uL m0⟩)
   go_wp2_with fail;refine(c8i x b w.heap.size _ (spk x x.cells.length) _ bn on VB BB (λi hi=>(c3k.1 hi).1) (by omega) hrw hbl.size).mono ?_;rintro e w3 ⟨rfl,hs,hb3⟩;have x3:Ext w w3:=Below.trans hbl hb3;go_wp2_with fail;go_ret;obtain⟨g,cap,L',e,hp,hc,hsr⟩:=uH hs;exact⟨g,cap,L',by show _=_;rw[e];rfl,⟨hc,by have:=hp.length_eq;omega,λi=>by rw[hp.mem_iff];exact c3k⟩,⟨hsr,hp⟩,x3⟩
theorem a3r(x:Hp)(b:Nat)(w:World)(bn on:Nat)(h:VNt w b x ar kr ac (some ⟨bn,on,none⟩) kn)(hn8:x.cells.length<=8000):
  Calls Tryz.prog 102 #[.pointer (some ⟨b,0,none⟩)] w λe w'=>∃(g:Option Addr) (cap:Nat) (Ls:List Nat),Hid (e=.returned (.slice g Ls.length cap))/\Hid (b5u x w w' g bn on Ls)/\Ext w w':=
 (a9u x b w bn on h hn8).mono λ_ _ ⟨g,cap,Ls,a,b,_,c⟩=>⟨g,cap,Ls,a,b,c⟩
def pv(bn on:Nat)(o:Option Nat):Value:=match o with | none=>.pointer none | some i=>ptr bn (on+i*2)
def wo(x:Hp)(y:Wd):Option Nat:=if y.k=2 then some (tgt x y) else none
structure zD(Q:Nat->Prop)(Mt Mt' St St':List Nat):Prop where
 m:∀i,i∈Mt->i∈Mt'
 s:∀i,i∈St->i∈St'
 n:∀i,i∈Mt'->i∈Mt\/(Q i/\i∈St')
 w:2*Mt.length+St'.length<=2*Mt'.length+St.length
 l:Mt.length<=Mt'.length
theorem zD.refl:zD Q Mt Mt St St:=⟨λ_ h=>h,λ_ h=>h,λ_ h=>.inl h,Nat.le_refl _,Nat.le_refl _⟩
theorem zD.trans(h:zD Q M1 M2 S1 S2)(k:zD Q M2 M3 S2 S3):zD Q M1 M3 S1 S3:=
 ⟨λi hi=>k.m i (h.m i hi),λi hi=>k.s i (h.s i hi),λi hi=>by
  rcases k.n i hi with q | q
  ·rcases h.n i q with r | ⟨r,s⟩
   ·exact .inl r
   ·exact .inr ⟨r,k.s i s⟩
  ·exact .inr q,by have:=h.w;have:=k.w;omega,Nat.le_trans h.l k.l⟩
theorem zD.mono{Q':Nat->Prop}(h:zD Q M1 M2 S1 S2)(hq:∀i,Q i->Q' i):zD Q' M1 M2 S1 S2:=
 ⟨h.m,h.s,λi hi=>by
  rcases h.n i hi with q | ⟨q,r⟩
  ·exact .inl q
  ·exact .inr ⟨hq i q,r⟩,h.w,h.l⟩
theorem b0w(a:(i∈Mt/\Mt'=Mt/\St'=St)\/(¬i∈Mt/\Mt'=Mt++[i]/\St'=St++[i])):zD (λq=>q=i) Mt Mt' St St'/\i∈Mt':=by
 rcases a with⟨m,rfl,rfl⟩ | ⟨m,rfl,rfl⟩
 ·exact⟨zD.refl,m⟩
 ·refine⟨⟨λj hj=>List.mem_append_left _ hj,λj hj=>List.mem_append_left _ hj,λj hj=>?_,by simp;omega,by simp⟩,by simp⟩;rcases List.mem_append.1 hj with q | q
  ·exact .inl q
  ·simp at q;exact .inr ⟨q,by simp [q]⟩
theorem a9v(base bw bv r1 bn on n:Nat)(o:Option Nat)(v:Value)(Mt St:List Nat)(w:World)(h:eH w base bw bv r1 bn on n v Mt St)(ho:∀i,o=some i->i<n)(hb:base<=w.heap.size)(hn8:n<=8000):
  Calls Tryz.prog 121 #[.pointer (some ⟨bw,0,none⟩),pv bn on o] w λe w'=>e=.returned (.tuple #[])/\∃v' Mt' St',eH w' base bw bv r1 bn on n v' Mt' St'/\Hid (zD (λi=>o=some i) Mt Mt' St St'/\∀i,o=some i->i∈Mt')/\KFr bw r1 v v' w w':=by
 cases o with
 | none=>exact(b8u bw w).mono λ_ _ ⟨he,hw⟩=>by subst hw;exact⟨he,v,Mt,St,h,⟨zD.refl,λi e=>by cases e⟩,KFr.of_ext (Ext.refl _)⟩
 | some i=>exact(a9s base bw bv r1 bn on n i v Mt St w h (ho i rfl) hb hn8).mono λ_ _ ⟨he,v',M',S',hw,ha,hk⟩=>⟨he,v',M',S',hw,⟨(b0w ha).1.mono (λq e=>by rw[e]),λj e=>by cases e;exact(b0w ha).2⟩,hk⟩
theorem b3p(x:Hp)(y:Wd)(b:Nat)(w:World)(bn on:Nat)(h:VNt w b x ar kr ac (some ⟨bn,on,none⟩) kn)(r2:R2 x)(hy:a0p x y):
  Calls Tryz.prog 123 #[.pointer (some ⟨b,0,none⟩),y.v] w λe w'=>Hid (e=.returned (pv bn on (wo x y)))/\Ext w w':=
 (a2w x y b w bn on h.f r2 hy).mono λ_ _ ⟨t,he,ht,hx⟩=>⟨by
  rcases ht with⟨k,e⟩ | ⟨k,e⟩
  ·rw[uH he,e,wo,if_neg k];rfl
  ·rw[uH he,e,wo,if_pos k];rfl,hx⟩
theorem b5v{y:Wd}(hy:a0p x y)(i:Nat)(h:wo x y=some i):i<x.cells.length/\y.k=2/\i=tgt x y:=by
 unfold wo at h
 split at h
 ·rename_i k;cases h;exact⟨(hy k).2.2.2.2.1,k,rfl⟩
 ·cases h
structure zN(w:World)(base bw r1 r2 bn on:Nat)(v:Value)(f:Nat->Value)(g:Nat->List (Option Nat)):Prop where
 c3:w.cell? ⟨bw,3,none⟩=some (Value.map (some r2))
 m:b0v w r2 bn on f
 row:∀k,w.ownsRow base 126 1 (f k) (g k).length ((g k).map (pv bn on))
 dis:∀k k' b,k≠k'->(f k).ownBlock=some b->(f k').ownBlock≠some b
 av:∀k b,(f k).ownBlock=some b->v.ownBlock≠some b
 a1:∀k,(f k).ownBlock≠some bw
 a2:∀k,(f k).ownBlock≠some r1
 a3:∀k,(f k).ownBlock≠some r2
 n1:r2≠bw
 n2:r2≠r1
 n3:v.ownBlock≠some r2
 b2:base<=r2
theorem zN.ext{f:Nat->Value}{g:Nat->List (Option Nat)}(h:zN w base bw r1 r2 bn on v f g)(e:Ext w w'):zN w' base bw r1 r2 bn on v f g:=
 ⟨e.keep h.c3,h.m.block (e.block r2 h.m.lt),λk=>uN (h.row k) (λb hb=>e.block b ((h.row k).lt b hb).2),h.dis,h.av,h.a1,h.a2,h.a3,h.n1,h.n2,h.n3,h.b2⟩
theorem zN.step{v':Value}{f:Nat->Value}{g:Nat->List (Option Nat)}(h:zN w base bw r1 r2 bn on v f g)(k:KFr bw r1 v v' w w'):zN w' base bw r1 r2 bn on v' f g:=by
 refine⟨k.keep 3 _ (by omega) h.c3,h.m.block (k.block r2 h.m.lt h.n1 h.n2 h.n3),λq=>uN (h.row q) (λb hb=>k.block b ((h.row q).lt b hb).2 (λe=>h.a1 q (e ▸ hb)) (λe=>h.a2 q (e ▸ hb)) (h.av q b hb)),h.dis,λq b hb e=>?_,h.a1,h.a2,h.a3,h.n1,h.n2,λe=>?_,h.b2⟩
 ·rcases k.own with o | ⟨y,o,hy⟩
  ·rw[o] at e;exact h.av q b hb e
  ·rw[o] at e;cases e;have:=((h.row q).lt b hb).2;omega
 ·rcases k.own with o | ⟨y,o,hy⟩
  ·rw[o] at e;exact h.n3 e
  ·rw[o] at e;cases e;have:=h.m.lt;omega
theorem b6y{t:TypeId}{xs:List Value}(h:w.ownsRow base t 1 v n xs):∃ad cap,v=.slice ad n cap/\(0<n->∃gb,ad=some ⟨gb,0,none⟩):=by
 rcases h.2 with⟨h0,h1⟩ | ⟨g,cap,cur,h0,_⟩
 ·subst h1;exact⟨none,0,h0,λq=>by omega⟩
 ·exact⟨_,cap,h0,λ_=>⟨g,rfl⟩⟩
theorem zN.wait{W w3:World}{bv gb cap:Nat}{f:Nat->Value}{g:Nat->List (Option Nat)}{o:Option Nat}{ob:Obj}(hk:eH w base bw bv r1 bn on n v Mt St)(h:zN w base bw r1 r2 bn on v f g)(hWh:W.heap=(w.alloc ob).heap)(hWo:W.os=w.os)(hWt:W.tape=w.tape)(hWu:W.output=w.output)
  (hown:w2.ownsRow base 126 1 (.slice (some ⟨gb,0,none⟩) ((g k).length+1) cap) ((g k).length+1) ((g k).map (pv bn on)++[pv bn on o])) (hg:W.grownBy w2 (f k).ownBlock) (hat:(f k).ownBlock=some gb\/gb=W.heap.size)
  (hm:b0v w3 r2 bn on (λq=>if q=k then .slice (some ⟨gb,0,none⟩) ((g k).length+1) cap else f q)) (hos:w3.os=w2.os) (ht:w3.tape=w2.tape) (hou:w3.output=w2.output) (hsz:w3.heap.size=w2.heap.size) (hbl:∀q:Nat,q≠r2->w3.heap[q]?=w2.heap[q]?) :
  eH w3 base bw bv r1 bn on n v Mt St/\zN w3 base bw r1 r2 bn on v (λq=>if q=k then .slice (some ⟨gb,0,none⟩) ((g k).length+1) cap else f q) (λq=>if q=k then g k++[o] else g q)/\(∀a:World,a.heap.size=base->Ext a w->Ext a w3):=by
 have hr:=hk.rlt;have hWs:W.heap.size=w.heap.size+1:=by rw[hWh];simp
 have hs1:w.heap.size+1<=w2.heap.size:=by have:=hg.size;omega
 have blk:∀b:Nat,b<w.heap.size->(f k).ownBlock≠some b->w2.heap[b]?=w.heap[b]?:=λb hb hv=>(hg.block b (by omega) (λe=>hv e.symm)).trans (by rw[hWh];exact Below.heap_alloc w ob b hb)
 have blk3:∀b:Nat,b<w.heap.size->(f k).ownBlock≠some b->b≠r2->w3.heap[b]?=w.heap[b]?:=λb hb hv hn=>(hbl b hn).trans (blk b hb hv)
 have hgb:gb≠bw/\gb≠r1/\gb≠r2/\v.ownBlock≠some gb/\(∀q,q≠k->(f q).ownBlock≠some gb):=by
  rcases hat with e | e
  ·exact⟨λq=>h.a1 k (q ▸ e),λq=>h.a2 k (q ▸ e),λq=>h.a3 k (q ▸ e),h.av k gb e,λq hq=>h.dis k q gb (λz=>hq z.symm) e⟩
  ·have:=h.m.lt;exact⟨by omega,by omega,by omega,λq=>by have:=(hk.s.lt _ q).2;omega,λq _ z=>by have:=((h.row q).lt _ z).2;omega⟩
 have fo:∀q b,(if q=k then (.slice (some ⟨gb,0,none⟩) ((g k).length+1) cap:Value) else f q).ownBlock=some b->(q=k/\b=gb)\/(q≠k/\(f q).ownBlock=some b):=λq b e=>by
  by_cases z:q=k
  ·rw[if_pos z] at e;simp [Value.ownBlock] at e;exact .inl ⟨z,e.symm⟩
  ·rw[if_neg z] at e;exact .inr ⟨z,e⟩
 have bwb:w3.heap[bw]?=w.heap[bw]?:=blk3 bw hr.1 (h.a1 k) (λe=>h.n1 e.symm);have cc:∀o' v',w.cell? ⟨bw,o',none⟩=some v'->w3.cell? ⟨bw,o',none⟩=some v':=λo' v' hc=>(World.cell?_of_block (a:=⟨bw,o',none⟩) bwb).trans hc
 refine⟨⟨cc 0 _ hk.c0,cc 1 _ hk.c1,cc 2 _ hk.c2,(World.frozen?_of_block (a:=⟨bw,2,none⟩) bwb).trans hk.f2,hk.m.block (blk3 r1 hr.2 (h.a2 k) (λe=>h.n2 e.symm)),uN hk.s (λb hb=>blk3 b (hk.s.lt b hb).2 (λe=>h.av k b e hb) (λe=>h.n3 (e ▸ hb))),hk.a1,hk.a2,hk.a3,hk.b1,hk.b2,hk.sub,hk.nd,hk.nds,hk.rg⟩,⟨cc 3 _ h.c3,hm,λq=>?_,λq q' b hq e=>?_,λq b e=>?_,λq e=>?_,λq e=>?_,λq e=>?_,h.n1,h.n2,h.n3,h.b2⟩,λa ha ea=>?_⟩
 ·by_cases z:q=k
  ·subst z;simp only [if_true,List.length_append,List.length_singleton,List.map_append,List.map_cons,List.map_nil];exact uN hown (λb hb=>hbl b (λe=>by simp [Value.ownBlock] at hb;omega))
  ·simp only [z,if_false];exact uN (h.row q) (λb hb=>blk3 b ((h.row q).lt b hb).2 (h.dis q k b z hb) (λe=>h.a3 q (e ▸ hb)))
 ·intro e';rcases fo q b e with⟨z,y⟩ | ⟨z,y⟩
  ·rcases fo q' b e' with⟨z',y'⟩ | ⟨z',y'⟩
   ·exact hq (z.trans z'.symm)
   ·rw[y] at y';exact hgb.2.2.2.2 q' z' y'
  ·rcases fo q' b e' with⟨z',y'⟩ | ⟨z',y'⟩
   ·rw[y'] at y;exact hgb.2.2.2.2 q z y
   ·exact h.dis q q' b hq y y'
 ·rcases fo q b e with⟨z,y⟩ | ⟨z,y⟩
  ·rw[y];exact hgb.2.2.2.1
  ·exact h.av q b y
 ·rcases fo q bw e with⟨z,y⟩ | ⟨z,y⟩
  ·exact hgb.1 y.symm
  ·exact h.a1 q y
 ·rcases fo q r1 e with⟨z,y⟩ | ⟨z,y⟩
  ·exact hgb.2.1 y.symm
  ·exact h.a2 q y
 ·rcases fo q r2 e with⟨z,y⟩ | ⟨z,y⟩
  ·exact hgb.2.2.1 y.symm
  ·exact h.a3 q y
 ·refine Below.trans ea ⟨(hos.trans hg.os).trans hWo,(ht.trans hg.tape).trans hWt,(hou.trans hg.output).trans hWu,by omega,λb hb=>?_⟩;have hbw:b<w.heap.size:=Nat.lt_of_lt_of_le hb ea.size;exact blk3 b hbw (λe=>by have:=((h.row k).lt b e).1;omega) (λe=>by have:=h.b2;omega)
def Bes(o1 o2:Option Nat)(Mt Mt' St St':List Nat)(g g':Nat->List (Option Nat)):Prop:=
 ((o1=none\/∃k,o1=some k/\k∈Mt)/\zD (λi=>o2=some i) Mt Mt' St St'/\(∀i,o2=some i->i∈Mt')/\g'=g)\/(∃k,o1=some k/\¬k∈Mt/\Mt'=Mt/\St'=St/\g'=λq=>if q=k then g k++[o2] else g q)
theorem b5w:∃et,Tryz.prog.underlying 170=some (.map 126 et)/\∀w,(zeroValue et).run Tryz.prog w=.ok (.slice none 0 0) w:=⟨_,Tryz.underlying170,λ_=>by kernel_rfl⟩
theorem b9g(a:World)(bw bv r1 r2 bn on n:Nat)(o2:Option Nat)(v:Value)(f:Nat->Value)(g:Nat->List (Option Nat))(Mt St:List Nat)(w:World)(h:eH w a.heap.size bw bv r1 bn on n v Mt St)(ht:zN w a.heap.size bw r1 r2 bn on v f g)(ho:∀i,o2=some i->i<n)(hx:Ext a w)(hn8:n<=8000):
  Calls Tryz.prog 202 #[.pointer (some ⟨bw,0,none⟩),.pointer none,pv bn on o2] w λe w'=>e=.returned (.tuple #[])/\∃v' Mt' St',eH w' a.heap.size bw bv r1 bn on n v' Mt' St'/\zN w' a.heap.size bw r1 r2 bn on v' f g/\Hid (zD (λi=>o2=some i) Mt Mt' St St'/\(∀i,o2=some i->i∈Mt'))/\Hid (Ext a w'):=by
 have HW:=uU h;have HT:=uU ht;have HX:=uU hx;clear h ht;go_enter Tryz.func202,Tryz.ntmps202;go_wp2_with fail;refine(a9v a.heap.size bw bv r1 bn on n o2 v Mt St _ HW ho hx.size hn8).mono ?_;rintro e w1 ⟨rfl,v',M',S',hw,hg,hk⟩;have FIN:=uU (And.intro hw (And.intro (HT.step hk) (And.intro hg (HW.kext hk hx))));clear hw hg hk;go_wp2_with fail
 try simp only [Exit.inBlock,Exit.then]
 refine bodyPost_ret (results_none rfl _ _ _) rfl ?_;exact⟨rfl,v',M',S',FIN.1,FIN.2.1,FIN.2.2.1,FIN.2.2.2⟩
theorem c5r(a:World)(bw bv r1 r2 bn on n k:Nat)(o2:Option Nat)(v:Value)(f:Nat->Value)(g:Nat->List (Option Nat))(Mt St:List Nat)(w:World)(h:eH w a.heap.size bw bv r1 bn on n v Mt St)(ht:zN w a.heap.size bw r1 r2 bn on v f g)(ho:∀i,o2=some i->i<n)(hx:Ext a w)(hn8:n<=8000)(hm:k∈Mt):
  Calls Tryz.prog 202 #[.pointer (some ⟨bw,0,none⟩),ptr bn (on+k*2),pv bn on o2] w λe w'=>e=.returned (.tuple #[])/\∃v' Mt' St',eH w' a.heap.size bw bv r1 bn on n v' Mt' St'/\zN w' a.heap.size bw r1 r2 bn on v' f g/\Hid (zD (λi=>o2=some i) Mt Mt' St St'/\(∀i,o2=some i->i∈Mt'))/\Hid (Ext a w'):=by
 have HW:=uU h;have HT:=uU ht;have c1:=h.c1;clear h ht;go_enter Tryz.func202,Tryz.ntmps202;go_wp2_with fail;refine(a5x r1 bn (on+k*2) _ _ HW.m).mono ?_;rintro e w1 ⟨rfl,hq⟩;have E:decide (on+k*2∈Mt.map (λi=>on+i*2))=true:=decide_eq_true (a4n.2 hm);rw[E];clear E;have x1:=hx.trans hq;go_wp2_with fail;refine(a9v a.heap.size bw bv r1 bn on n o2 v Mt St _ (HW.ext hq) ho x1.size hn8).mono ?_;rintro e w2 ⟨rfl,v',M',S',hw,hg,hk⟩;have FIN:=uU (And.intro hw (And.intro ((HT.ext hq).step hk) (And.intro hg ((HW.ext hq).kext hk x1))));clear hw hg hk;go_wp2_with fail
 try simp only [Exit.inBlock,Exit.then]
 refine bodyPost_ret (results_none rfl _ _ _) rfl ?_;exact⟨rfl,v',M',S',FIN.1,FIN.2.1,FIN.2.2.1,FIN.2.2.2⟩
theorem pv_ptr(bn on:Nat)(o:Option Nat):∃q,pv bn on o=.pointer q:=by cases o with | none=>exact⟨_,rfl⟩ | some i=>exact⟨_,rfl⟩
theorem c1u(a:World)(bw bv r1 r2 bn on n k:Nat)(o2:Option Nat)(v:Value)(f:Nat->Value)(g:Nat->List (Option Nat))(Mt St:List Nat)(w:World)(h:eH w a.heap.size bw bv r1 bn on n v Mt St)(ht:zN w a.heap.size bw r1 r2 bn on v f g)(hx:Ext a w)(hg:(g k).length<=10000000)(hm:¬k∈Mt):
  Calls Tryz.prog 202 #[.pointer (some ⟨bw,0,none⟩),ptr bn (on+k*2),pv bn on o2] w λe w'=>e=.returned (.tuple #[])/\∃f',eH w' a.heap.size bw bv r1 bn on n v Mt St/\zN w' a.heap.size bw r1 r2 bn on v f' (λq=>if q=k then g k++[o2] else g q)/\Hid (Ext a w'):=by
 obtain⟨et,hu,hz⟩:=b5w;obtain⟨i1,hi1,_,hz1,_⟩:=info_parts a5c;obtain⟨i0,hi0,hy0,hy1,hy2⟩:=info_parts b0u;have HW:=uU h;have HT:=uU ht;have c1:=h.c1;have c3:=ht.c3;have HU:=uU hu;have HN:=uU hi1;have HZ:=uU hz1;have LK:=uU (λw' (e:Ext w w')=>(ht.ext e).m.lookup hu a7c hi1 (by rw[hz1];omega) hz k);clear h ht hu hz hi1 hz1;obtain⟨fk,hfk⟩:∃u,u=f k:=⟨_,rfl⟩;obtain⟨pq,hpq⟩:=pv_ptr bn on o2;rw[hpq];have PQ:=uU hpq;clear hpq;go_enter Tryz.func202,Tryz.ntmps202;go_wp2_with fail;refine(a5x r1 bn (on+k*2) _ _ HW.m).mono ?_;rintro e w1 ⟨rfl,hq⟩;have E:decide (on+k*2∈Mt.map (λi=>on+i*2))=false:=decide_eq_false (λq=>hm (a4n.1 q));rw[E];clear E;have x1:=hx.trans hq;have d3:=hq.keep c3;have lk:=uH LK w1.drew hq.drew;have lk2:=λob=>uH LK (w1.alloc ob).drew (hq.alloc ob).drew
 have lk3:=λob=>uH LK (w1.drew.alloc ob) (hq.drew.alloc ob)
 rw[<-hfk] at lk;simp only [<-hfk] at lk2 lk3;have W1:=uU (HW.ext hq);have T1:=uU (HT.ext hq);have OW:=uU (show w1.ownsRow a.heap.size 126 1 fk (g k).length ((g k).map (pv bn on)) by rw[hfk];exact T1.row k);have FK:=uU hfk;have hsz1:=x1.size;have hbw1:bw<w1.heap.size:=W1.rlt.1;clear hfk hq LK c3;go_wp2_with fail
 go_region_law (refine step_append_lies _ rfl _ _ 130 rfl a.heap.size 126 i0 (.pointer none) 1 8 Tryz.underlying130 hi0 hy0 hy1 hy2 rfl (by decide) fk (g k).length ((g k).map (pv bn on)) (by first | rfl | simp [Act.eval,Act.put]) (by first | exact OW.alloc _ | exact own_drew (OW.alloc _) | exact(own_drew OW).alloc _) _ 1 1 [.pointer pq] (by first | rfl | simp [Act.eval,Act.put];rfl) rfl (by
   intro j u hj
   match j,hj with
   | 0,hj=>simp at hj;subst hj;simp [Addr.add]) (by intro u hu;simp at hu;subst hu;rfl) (by decide) (by unfold maxLen;omega) (by omega) (by simp;omega) _ rfl ?_;intro gb cap w2 hown hgrow hat hglt;have m2:b0v w2 r2 bn on f:=T1.m.block ((hgrow.block r2 (by have:=T1.m.lt;simp;omega) (λe=>T1.a3 k (by rw[<-uH FK];exact e.symm))).trans (Below.heap_alloc w1 _ r2 T1.m.lt));have e3:w2.cell? ⟨bw,3,none⟩=some (Value.map (some r2)):=(World.cell?_of_block (w:=w1) (a:=⟨bw,3,none⟩) ((hgrow.block bw (by have:=W1.rlt;simp;omega) (λe=>T1.a1 k (by rw[<-uH FK];exact e.symm))).trans (Below.heap_alloc w1 _ bw W1.rlt.1))).trans d3;obtain⟨w3,hUp,m3,hos,htp,hou,hsz,hbl⟩:=m2.update HU a7c HN (by rw[uH HZ];omega) k (.slice (some ⟨gb,0,none⟩) ((g k).length+1) cap);have FIN:=uU (zN.wait (o:=o2) (W:=(w1.alloc (.cells #[.pointer pq] 126)).drew) (ob:=.cells #[.pointer pq] 126) W1 T1 rfl rfl rfl rfl (by rw[uH PQ];exact hown) (by rw[<-uH FK];exact hgrow) (by rw[<-uH FK];simpa using hat) m3 hos htp hou hsz hbl);clear hown hgrow hat m2 m3 hos htp hou hsz hbl)
 all_goals
  go_wp2_with fail
  go_end0
  exact⟨rfl,_,FIN.1,FIN.2.1,FIN.2.2 a rfl x1⟩
theorem b3q(a:World)(bw bv r1 r2 bn on n:Nat)(o1 o2:Option Nat)(v:Value)(f:Nat->Value)(g:Nat->List (Option Nat))(Mt St:List Nat)(w:World)(h:eH w a.heap.size bw bv r1 bn on n v Mt St)(ht:zN w a.heap.size bw r1 r2 bn on v f g)(ho:∀i,o2=some i->i<n)(hx:Ext a w)(hn8:n<=8000)(hg:∀k,(g k).length<=10000000):
  Calls Tryz.prog 202 #[.pointer (some ⟨bw,0,none⟩),pv bn on o1,pv bn on o2] w λe w'=>e=.returned (.tuple #[])/\∃v' Mt' St' f' g',eH w' a.heap.size bw bv r1 bn on n v' Mt' St'/\zN w' a.heap.size bw r1 r2 bn on v' f' g'/\Hid (Bes o1 o2 Mt Mt' St St' g g')/\Hid (Ext a w'):=by
 cases o1 with
 | none=>exact(b9g a bw bv r1 r2 bn on n o2 v f g Mt St w h ht ho hx hn8).mono λ_ _ ⟨he,v',M',S',q1,q2,q3,q4⟩=>⟨he,v',M',S',f,g,q1,q2,.inl ⟨.inl rfl,q3.1,q3.2,rfl⟩,q4⟩
 | some k=>
  by_cases hm:k∈Mt
  ·exact(c5r a bw bv r1 r2 bn on n k o2 v f g Mt St w h ht ho hx hn8 hm).mono λ_ _ ⟨he,v',M',S',q1,q2,q3,q4⟩=>⟨he,v',M',S',f,g,q1,q2,.inl ⟨.inr ⟨k,rfl,hm⟩,q3.1,q3.2,rfl⟩,q4⟩
  ·exact(c1u a bw bv r1 r2 bn on n k o2 v f g Mt St w h ht hx (hg k) hm).mono λ_ _ ⟨he,f',q1,q2,q3⟩=>⟨he,v,Mt,St,f',_,q1,q2,.inr ⟨k,rfl,hm,rfl,rfl,rfl⟩,q3⟩
theorem b9h(a:World)(bw bv r1 r2 bn on n k:Nat)(v:Value)(f:Nat->Value)(g:Nat->List (Option Nat))(Mt St:List Nat)(w:World)(h:eH w a.heap.size bw bv r1 bn on n v Mt St)(ht:zN w a.heap.size bw r1 r2 bn on v f g)(ho:∀i,some i∈g k->i<n)(hx:Ext a w)(hn8:n<=8000)(hg:(g k).length<=10000000):
  Calls Tryz.prog 124 #[.pointer (some ⟨bw,0,none⟩),ptr bn (on+k*2)] w λe w'=>e=.returned (.tuple #[])/\∃v' Mt' St',eH w' a.heap.size bw bv r1 bn on n v' Mt' St'/\zN w' a.heap.size bw r1 r2 bn on v' f g/\Hid (zD (λi=>some i∈g k) Mt Mt' St St'/\∀i,some i∈g k->i∈Mt')/\Hid (Ext a w'):=by
 obtain⟨et,hu,hz⟩:=b5w;obtain⟨i1,hi1,_,hz1,_⟩:=info_parts a5c;have HW:=uU h;have HT:=uU ht;have c3:=ht.c3;have lk:=ht.m.lookup hu a7c hi1 (by rw[hz1];omega) hz k;obtain⟨ad,cap,hf,hgb⟩:=b6y (ht.row k);have FK:=uU hf;rw[hf] at lk;clear h ht hu hz hi1 hz1 hf;go_enter Tryz.func124,Tryz.ntmps124;go_wp2_with fail;go_loopw [13] (λi wr=>∃(l:Nat) (v':Value) (M S:List Nat),l<=(g k).length/\i=.int .i64 l/\eH wr a.heap.size bw bv r1 bn on n v' M S/\zN wr a.heap.size bw r1 r2 bn on v' f g/\Hid (zD (λi=>some i∈g k) Mt M St S/\∀j i,j<l->(g k)[j]?=some (some i)->i∈M)/\Ext a wr) (λi _=>(g k).length-(intOf i).toNat)
 case atStart=>exact⟨0,v,Mt,St,Nat.zero_le _,rfl,HW,HT,⟨zD.refl,λj i hj=>by omega⟩,hx⟩
 case round=>
  clear HW HT c3 lk hx;obtain⟨l,v',M,S,hl,rfl,hw,htt,hinv,hbl⟩:=hrel;have HW:=uU hw;have HT:=uU htt;by_cases hlt:l<(g k).length
  ·obtain⟨gb,rfl⟩:=hgb (by omega);obtain⟨o,hoo⟩:∃o,(g k)[l]?=some o:=⟨_,List.getElem?_eq_getElem hlt⟩
   have cl:wr.cell? ⟨gb,l,none⟩=some (pv bn on o):=by
    have hr:=htt.row k;rw[uH FK] at hr;have:=World.ownsRow.cellAt hr l (by omega);rw[this,List.getElem?_map,hoo];rfl
   have hk0:(0:Int)<=(l:Int):=by omega
   have hk1:(l:Int)<((g k).length:Int):=by omega
   have HO:=uU hoo;clear hw htt hoo;go_wp2_with fail;refine(a9v a.heap.size bw bv r1 bn on n o v' M S _ HW (λi e=>ho i (by subst e;exact List.mem_of_getElem? HO)) hbl.size hn8).mono ?_;rintro e w2 ⟨rfl,v2,M2,S2,hw2,hg2,hk2⟩
   have R:=uU (show eH w2 a.heap.size bw bv r1 bn on n v2 M2 S2/\zN w2 a.heap.size bw r1 r2 bn on v2 f g/\(zD (λi=>some i∈g k) Mt M2 St S2/\∀j i,j<l+1->(g k)[j]?=some (some i)->i∈M2)/\Ext a w2 from
    ⟨hw2,HT.step hk2,⟨hinv.1.trans (hg2.1.mono (λi e=>by subst e;exact List.mem_of_getElem? HO)),λj i hj e=>by
     by_cases q:j=l
     ·subst q;rw[uH HO] at e;cases e;exact hg2.2 i rfl
     ·exact hg2.1.m i (hinv.2 j i (by omega) e)⟩,HW.kext hk2 hbl⟩)
   clear hw2 hg2 hk2;go_wp2_with fail;go_roundw
   case rel=>exact⟨l+1,v2,M2,S2,by omega,by go_num,R.1,R.2.1,R.2.2.1,R.2.2.2⟩
   case measure=>simp [intOf];omega
  ·have hl2:l=(g k).length:=by omega
   have R:=uU (show zD (λi=>some i∈g k) Mt M St S/\∀i,some i∈g k->i∈M from⟨hinv.1,λi hi=>by
    obtain⟨j,hj,e⟩:=List.getElem_of_mem hi;exact hinv.2 j i (by omega) (by rw[List.getElem?_eq_getElem hj,e])⟩)
   clear hw htt hinv hl2;go_wp2_with fail
   go_end0
   exact⟨rfl,v',M,S,HW,HT,R,hbl⟩
def Pend(Mt St:List Nat)(pre:Option Nat)(k:Nat):Prop:=¬k∈Mt\/k∈St\/pre=some k
def a2m(x:Hp)(Mt St:List Nat)(g:Nat->List (Option Nat))(pre:Option Nat)(i l:Nat):Prop:=∀p,p<(x.c i).prs.length->p<l->(SK (x.c i)->((x.c i).p p).key.k=2->tgt x ((x.c i).p p).key∈Mt)/\
 (SV (x.c i)->((x.c i).p p).val.k=2->(((x.c i).p p).key.k≠2->tgt x ((x.c i).p p).val∈Mt)/\(((x.c i).p p).key.k=2->tgt x ((x.c i).p p).val∈Mt\/(some (tgt x ((x.c i).p p).val)∈g (tgt x ((x.c i).p p).key)/\Pend Mt St pre (tgt x ((x.c i).p p).key))))
structure tK(x:Hp)(Mt St:List Nat)(g:Nat->List (Option Nat))(pre cur:Option Nat):Prop where
 only:∀i,i∈Mt->dK x i
 regs:a6m x x.regs.length Mt
 due:∀i,i<x.cells.length->(x.c i).last=2->i∈Mt
 wh:∀k i,some i∈g k->dK x k->dK x i
 wl:∀k i,some i∈g k->i<x.cells.length
 part:∀i,i∈Mt->i∈St\/cur=some i\/a2m x Mt St g pre i (x.c i).prs.length
theorem Pend.grow{pre:Option Nat}(h:Pend Mt St pre k)(G:zD Q Mt Mt' St St'):Pend Mt' St' pre k:=by
 rcases h with q | q | q
 ·by_cases e:k∈Mt'
  ·rcases G.n k e with r | ⟨_,r⟩
   ·exact(q r).elim
   ·exact .inr (.inl r)
  ·exact .inl e
 ·exact .inr (.inl (G.s k q))
 ·exact .inr (.inr q)
theorem a2m.grow{g:Nat->List (Option Nat)}{pre:Option Nat}(h:a2m x Mt St g pre i l)(G:zD Q Mt Mt' St St'):a2m x Mt' St' g pre i l:=λp h1 h2=>
 ⟨λa b=>G.m _ ((h p h1 h2).1 a b),λa b=>⟨λc=>G.m _ (((h p h1 h2).2 a b).1 c),λc=>by
  rcases ((h p h1 h2).2 a b).2 c with q | ⟨q,r⟩
  ·exact .inl (G.m _ q)
  ·exact .inr ⟨q,r.grow G⟩⟩⟩
theorem a2m.more{g g':Nat->List (Option Nat)}{pre:Option Nat}(h:a2m x Mt St g pre i l)(hg:∀k o,o∈g k->o∈g' k):a2m x Mt St g' pre i l:=λp h1 h2=>
 ⟨(h p h1 h2).1,λa b=>⟨((h p h1 h2).2 a b).1,λc=>by
  rcases ((h p h1 h2).2 a b).2 c with q | ⟨q,r⟩
  ·exact .inl q
  ·exact .inr ⟨hg _ _ q,r⟩⟩⟩
theorem tK.grow{g:Nat->List (Option Nat)}{pre cur:Option Nat}(h:tK x Mt St g pre cur)(G:zD Q Mt Mt' St St')(hq:∀i,Q i->dK x i):tK x Mt' St' g pre cur:=
 ⟨λi hi=>by
  rcases G.n i hi with q | ⟨q,_⟩
  ·exact h.only i q
  ·exact hq i q,λj hj hjk e=>G.m _ (h.regs j hj hjk e),λi hi e=>G.m _ (h.due i hi e),h.wh,h.wl,λi hi=>by
  rcases G.n i hi with q | ⟨_,q⟩
  ·rcases h.part i q with r | r | r
   ·exact .inl (G.s i r)
   ·exact .inr (.inl r)
   ·exact .inr (.inr (r.grow G))
  ·exact .inl q⟩
theorem c3m{g:Nat->List (Option Nat)}{o:Option Nat}{q:Nat}{z:Option Nat}(h:z∈(λq=>if q=k then g k++[o] else g q) q):z∈g q\/(q=k/\z=o):=by
 by_cases e:q=k
 ·subst e;simp only [if_true,List.mem_append,List.mem_singleton] at h;rcases h with r | r
  ·exact .inl r
  ·exact .inr ⟨rfl,r⟩
 ·simp only [e,if_false] at h;exact .inl h
theorem b9i{g:Nat->List (Option Nat)}{o:Option Nat}(q:Nat)(z:Option Nat)(h:z∈g q):z∈(λq=>if q=k then g k++[o] else g q) q:=by
 by_cases e:q=k
 ·subst e;simp only [if_true];exact List.mem_append_left _ h
 ·simp only [e,if_false];exact h
theorem tK.wait{g:Nat->List (Option Nat)}{pre cur:Option Nat}(h:tK x Mt St g pre cur)(k:Nat)(o:Option Nat)(h1:∀i,o=some i->dK x k->dK x i)(h2:∀i,o=some i->i<x.cells.length):tK x Mt St (λq=>if q=k then g k++[o] else g q) pre cur:=
 ⟨h.only,h.regs,h.due,λq i hi hk=>by
  rcases c3m hi with r | ⟨rfl,r⟩
  ·exact h.wh q i r hk
  ·exact h1 i r.symm hk,λq i hi=>by
  rcases c3m hi with r | ⟨rfl,r⟩
  ·exact h.wl q i r
  ·exact h2 i r.symm,λi hi=>by
  rcases h.part i hi with r | r | r
  ·exact .inl r
  ·exact .inr (.inl r)
  ·exact .inr (.inr (r.more b9i))⟩
theorem tK.shut{g:Nat->List (Option Nat)}(h:tK x Mt St g none (some j))(c:a2m x Mt St g none j (x.c j).prs.length):tK x Mt St g none none:=
 ⟨h.only,h.regs,h.due,h.wh,h.wl,λi hi=>by
  rcases h.part i hi with r | r | r
  ·exact .inl r
  ·cases r;exact .inr (.inr c)
  ·exact .inr (.inr r)⟩
theorem tK.take{g:Nat->List (Option Nat)}(h:tK x Mt (St++[j]) g none none):tK x Mt St g (some j) (some j):=
 ⟨h.only,h.regs,h.due,h.wh,h.wl,λi hi=>by
  rcases h.part i hi with r | r | r
  ·rcases List.mem_append.1 r with q | q
   ·exact .inl q
   ·simp at q;exact .inr (.inl (by rw[q]))
  ·cases r
  ·refine .inr (.inr λp h1 h2=>⟨(r p h1 h2).1,λa b=>⟨((r p h1 h2).2 a b).1,λc=>?_⟩⟩);rcases ((r p h1 h2).2 a b).2 c with q | ⟨q,s⟩
   ·exact .inl q
   ·refine .inr ⟨q,?_⟩;rcases s with s | s | s
    ·exact .inl s
    ·rcases List.mem_append.1 s with t | t
     ·exact .inr (.inl t)
     ·simp at t;exact .inr (.inr (by rw[t]))
    ·cases s⟩
theorem tK.freed{g:Nat->List (Option Nat)}(h:tK x Mt St g (some j) (some j))(f:∀i,some i∈g j->i∈Mt):tK x Mt St g none (some j):=
 ⟨h.only,h.regs,h.due,h.wh,h.wl,λi hi=>by
  rcases h.part i hi with r | r | r
  ·exact .inl r
  ·exact .inr (.inl r)
  ·refine .inr (.inr λp h1 h2=>⟨(r p h1 h2).1,λa b=>⟨((r p h1 h2).2 a b).1,λc=>?_⟩⟩);rcases ((r p h1 h2).2 a b).2 c with q | ⟨q,s⟩
   ·exact .inl q
   ·rcases s with s | s | s
    ·exact .inr ⟨q,.inl s⟩
    ·exact .inr ⟨q,.inr (.inl s)⟩
    ·cases s;exact .inl (f _ q)⟩
theorem tK.done{g:Nat->List (Option Nat)}(h:tK x Mt [] g none none)(i:Nat):i∈Mt↔dK x i:=by
 constructor
 ·exact h.only i
 ·intro r
  have cl:∀j,j∈Mt->a2m x Mt [] g none j (x.c j).prs.length:=λj hj=>by
   rcases h.part j hj with q | q | q
   ·cases q
   ·cases q
   ·exact q
  refine r (λi=>i∈Mt) (λk hk hk2=>h.regs k hk hk hk2) h.due (λj p ih hp hs hk=>(cl j ih p hp hp).1 hs hk) (λj p ih hp hs hh hk=>?_);have c:=(cl j ih p hp hp).2 hs hk;by_cases e:((x.c j).p p).key.k=2
  ·rcases c.2 e with q | ⟨_,s⟩
   ·exact q
   ·rcases s with s | s | s
    ·exact(s (hh e)).elim
    ·cases s
    ·cases s
  ·exact c.1 e
theorem a7w{g g':Nat->List (Option Nat)}{Q2:Nat->Prop}(C:a2m x M S g none j l)(G1:zD Q M M2 S S2)(kM:SK (x.c j)->((x.c j).p l).key.k=2->tgt x ((x.c j).p l).key∈M2)
  (V:(¬SV (x.c j)/\M3=M2/\S3=S2/\g'=g)\/Bes (wo x ((x.c j).p l).key) (wo x ((x.c j).p l).val) M2 M3 S2 S3 g g') (G2:zD Q2 M2 M3 S2 S3):a2m x M3 S3 g' none j (l+1):=by
 have hg:∀k o,o∈g k->o∈g' k:=by
  rcases V with⟨_,_,_,e⟩ | ⟨_,_,_,e⟩ | ⟨k,_,_,_,_,e⟩
  ·subst e;exact λ_ _ h=>h
  ·subst e;exact λ_ _ h=>h
  ·subst e;exact b9i
 intro p h1 h2;by_cases e:p=l
 ·subst e;refine⟨λa b=>G2.m _ (kM a b),λa b=>?_⟩;have wv:wo x ((x.c j).p p).val=some (tgt x ((x.c j).p p).val):=by unfold wo;rw[if_pos b]
  rcases V with⟨n,_⟩ | ⟨_,_,m,_⟩ | ⟨k,ek,nk,em,_,eg⟩
  ·exact(n a).elim
  ·exact⟨λ_=>m _ wv,λ_=>.inl (m _ wv)⟩
  ·unfold wo at ek
   split at ek
   ·rename_i k2;cases ek;refine⟨λn=>(n k2).elim,λ_=>.inr ⟨?_,.inl (by rw[em];exact nk)⟩⟩;rw[eg,wv];simp
   ·cases ek
 ·exact(((C.grow G1).grow G2).more hg) p h1 (by omega)
theorem Bes.grow{o1 o2:Option Nat}{g g':Nat->List (Option Nat)}(h:Bes o1 o2 M M' S S' g g'):zD (λi=>o2=some i/\(o1=none\/∃k,o1=some k/\k∈M)) M M' S S':=by
 rcases h with⟨a,b,_,_⟩ | ⟨k,_,_,rfl,rfl,_⟩
 ·exact b.mono (λi e=>⟨e,a⟩)
 ·exact zD.refl
theorem Bes.len{o1 o2:Option Nat}{g g':Nat->List (Option Nat)}(h:Bes o1 o2 M M' S S' g g')(k:Nat):(g' k).length<=(g k).length+1:=by
 rcases h with⟨_,_,_,e⟩ | ⟨q,_,_,_,_,e⟩
 ·rw[e];omega
 ·rw[e];by_cases z:k=q
  ·subst z;simp
  ·simp [z]
theorem tK.beside{g g':Nat->List (Option Nat)}(h:tK x M2 S2 g none (some j))(hj:dK x j)(hl:l<(x.c j).prs.length)(hs:SV (x.c j))(my:a0p x ((x.c j).p l).val)
  (B:Bes (wo x ((x.c j).p l).key) (wo x ((x.c j).p l).val) M2 M3 S2 S3 g g'):tK x M3 S3 g' none (some j):=by
 have hv:∀i,wo x ((x.c j).p l).val=some i->(((x.c j).p l).key.k=2->dK x (tgt x ((x.c j).p l).key))->dK x i:=λi e hh=>by
  obtain⟨_,k,rfl⟩:=b5v my i e;exact dK.val j l hj hl hs hh k
 rcases B with⟨a,b,_,e⟩ | ⟨k,ek,_,rfl,rfl,e⟩
 ·rw[e];refine h.grow b (λi ei=>hv i ei (λk2=>?_));have wk:wo x ((x.c j).p l).key=some (tgt x ((x.c j).p l).key):=by unfold wo;rw[if_pos k2]
  rcases a with a | ⟨k,a,m⟩
  ·rw[wk] at a;cases a
  ·rw[wk] at a;cases a;exact h.only _ m
 ·rw[e];refine h.wait k _ (λi ei hk=>hv i ei (λk2=>?_)) (λi ei=>(b5v my i ei).1);unfold wo at ek;rw[if_pos k2] at ek;cases ek;exact hk
end Go.Proofs.YtddkhnclmeikfaaGreat
