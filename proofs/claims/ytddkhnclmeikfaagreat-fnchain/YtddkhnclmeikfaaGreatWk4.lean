import Derived.Test.YtddkhnclmeikfaaGreatVh
import Derived.Test.YtddkhnclmeikfaaGreatRc1
import Derived.Test.YtddkhnclmeikfaaGreatSp1
import Derived.Laws.StructEq
import Derived.Shelf.SlSortCmp.NoneTotal
set_option maxRecDepth 100000
set_option maxHeartbeats 2000000
namespace Go.Proofs.YtddkhnclmeikfaaGreat
open Go.RowKit
attribute [local go_sem ↓] Go.wp_at_zero Go.wp_at_succ
def fptr(bn:Nat)(y:Wd):Value:=if (y.k == 2)=true then ndp bn y.a.toNat else .pointer none
theorem wfollow_any[Inhabited ProtD]{B:Nat}{w:World}{b:Nat}{x:Hp}{ar:Option Addr}{kr:Nat}{v4 v8:Value}{br bn:Nat}{cB cO:Nat→Nat}{pb:Nat→Nat}{pa:Nat→Option Addr}{pk:Nat→Nat}{kn hd:Nat}{vf:Value}{F:List Int}{vk:Value}{K:List Nat}{role:Nat→Nat}(h:SAt B w b x ar kr v4 v8 br cB cO bn pb pa pk kn hd vf F vk K role)(r2:R2 x)(y:Wd)(hy:Good1 x y)(hf:Formed y x.cells.length):
  Calls Tryz.prog 123 #[.pointer (some ⟨b,0,none⟩),y.v] w fun e w'=>e=.returned (fptr bn y)∧Ext w w':=by
 unfold fptr;cases q:(y.k == 2)
 ·rw[if_neg (by simp)];exact follow_none y b w q
 ·rw[if_pos rfl];have hk:y.k=2:=by simpa using q
  have g:=hy hk;obtain⟨k,n,a⟩:=y;simp only at hk g;subst hk;unfold Formed at hf;simp only at hf;obtain⟨i,rfl⟩:∃i:Nat,a=(i:Int):=⟨a.toNat,by omega⟩;obtain rfl:n=0:=by omega
  have ei:((i:Int)).toNat=i:=by omega
  simp only [ei] at g ⊢;have L:lead x i=i:=by unfold lead;rw[if_neg (by rw[g.2];simp)]
  have:=sfollow_some h r2 i g.1;rw[L] at this;exact this
theorem sshade_nil(b:Nat)(w:World):Calls Tryz.prog 82 #[.pointer (some ⟨b,0,none⟩),.pointer none] w fun e w'=>e=.returned (.tuple #[])∧w'=w:=by
 go_enter Tryz.func82,Tryz.ntmps82;go_wp2_with fail
 try simp only [Exit.inBlock,Exit.then]
 refine bodyPost_ret (results_none rfl _ _ _) rfl ?_;exact⟨rfl,rfl⟩
theorem wshade_any[Inhabited ProtD]{B:Nat}{w:World}{b:Nat}{x:Hp}{ar:Option Addr}{kr:Nat}{v4 v8:Value}{br bn:Nat}{cB cO:Nat→Nat}{pb:Nat→Nat}{pa:Nat→Option Addr}{pk:Nat→Nat}{kn hd:Nat}{vf:Value}{F:List Int}{vk:Value}{K:List Nat}{role:Nat→Nat}(h:SAt B w b x ar kr v4 v8 br cB cO bn pb pa pk kn hd vf F vk K role)(y:Wd)(hy:Good1 x y)(gf:∀i,i<x.cells.length→shadeB x i=true→x.gray.length<4000)(a:World)(ha:a.heap.size≤B)(hx:Ext a w):
  Calls Tryz.prog 82 #[.pointer (some ⟨b,0,none⟩),fptr bn y] w fun e w'=>e=.returned (.tuple #[])∧Hid (SAt B w' b (shadeW x y) ar kr v4 v8 br cB cO bn pb pa pk kn hd vf F vk K role)∧Ext a w'∧Hid (∀q,q<w.heap.size→q≠b→(∀j,j<x.cells.length→q≠cB j)→w'.heap[q]?=w.heap[q]?):=by
 unfold fptr shadeW;cases q:(y.k == 2)
 ·rw[if_neg (by simp),if_neg (by simp)];refine(sshade_nil b w).mono ?_;rintro e w' ⟨rfl,rfl⟩;exact⟨rfl,h,hx,fun _ _ _ _=>rfl⟩
 ·rw[if_pos rfl,if_pos rfl];have hk:y.k=2:=by simpa using q
  have g:=(hy hk).1;refine(sshade_fr y.a.toNat w h g (gf _ g) a ha hx).mono ?_;rintro e w' ⟨h1,h2,h3,h4⟩;exact⟨h1,h2,h3,fun q hq hb hc=>unhide h4 q hq hb (hc _ g)⟩
theorem SAt.keptAs[Inhabited ProtD]{B:Nat}{w:World}{b:Nat}{x:Hp}{ar:Option Addr}{kr:Nat}{v4 v8:Value}{br bn:Nat}{cB cO:Nat→Nat}{pb:Nat→Nat}{pa:Nat→Option Addr}{pk:Nat→Nat}{kn hd:Nat}{vf:Value}{F:List Int}{vk:Value}{K:List Nat}{role:Nat→Nat}(h:SAt B w b x ar kr v4 v8 br cB cO bn pb pa pk kn hd vf F vk K role){vk':Value}{K':List Nat}(ow:w.ownsRow B 126 1 vk' K'.length (K'.map (ndp bn)))(hb:∀q,vk'.ownBlock=some q→vk.ownBlock=some q):
  SAt B (w.setCell ⟨b,4017,none⟩ vk') b x ar kr v4 v8 br cB cO bn pb pa pk kn hd vf F vk' K' role:=by
 have far:∀q,q≠b→(w.setCell ⟨b,4017,none⟩ vk').heap[q]?=w.heap[q]?:=fun q hne=>Below.heap_setCell _ _ _ _ hne
 have cb:∀o,o≠4017→(w.setCell ⟨b,4017,none⟩ vk').cell? ⟨b,o,none⟩=w.cell? ⟨b,o,none⟩:=fun o ho=>cell_other _ (.inr (fun e=>ho e.symm))
 have ne:∀q,role q≠0→q≠b:=fun q hq e=>hq (by rw[e];exact h.sp.b)
 have hsz:w.heap.size≤(w.setCell ⟨b,4017,none⟩ vk').heap.size:=by simp [World.setCell]
 have fn:=far bn (ne bn (by rw[h.sp.n];omega));refine⟨⟨h.sb.bx.of fun o ho=>cb o (by omega),h.sb.ha,(cb 13 (by omega)).trans h.sb.n13,fun k hk=>⟨(World.cell?_of_block (a:=⟨bn,_,none⟩) fn).trans (h.sb.nd k hk).1,(World.cell?_of_block (a:=⟨bn,_,none⟩) fn).trans (h.sb.nd k hk).2⟩,⟨(cb 14 (by omega)).trans h.sb.fr.hd,?_,ownsRow_of_block h.sb.fr.own (fun q hq=>far q (ne q (by rw[h.sp.f q hq];omega))),h.sb.fr.apart⟩,h.sb.rg.of fun o _ h2=>cb o (by omega),?_,?_,h.sb.nb.set _ _,⟨h.sb.lo.1,h.sb.lo.2.1,h.sb.lo.2.2.of fn hsz⟩⟩,?_,?_,h.pr.of (fun q hq h1=>far q (ne q (by rw[h1];omega))) (fun _ _ h=>h)⟩
 ·rw[World.frozen?_setCell];exact h.sb.fr.hf
 ·exact World.cell?_setCell_same _ _ _ h.sb.k0
 ·exact ownsRow_of_block ow (fun q hq=>far q (ne q (by rw[h.sp.k q (hb q hq)];omega)))
 ·exact h.rw.same hsz (fun hl=>far br (ne br (by rw[h.sp.r hl];omega))) (fun q hq=>far (cB q) (ne (cB q) (by rw[h.sp.c q hq];omega))) (fun q hq hl=>far (pb q) (ne (pb q) (by rw[h.sp.p q hq hl];omega)))
 ·exact⟨h.sp.b,h.sp.n,h.sp.r,h.sp.c,h.sp.f,fun q hq=>h.sp.k q (hb q hq),h.sp.p⟩
theorem own_short1{w:World}{B:Nat}{e:TypeId}{a:Option Addr}{k:Nat}{K:List Nat}{l:Nat}{bn:Nat}(h:w.ownsRow B e 1 (.slice a (K++[l]).length k) (K++[l]).length ((K++[l]).map (ndp bn))):w.ownsRow B e 1 (.slice a K.length k) K.length (K.map (ndp bn)):=by
 obtain⟨_,h2⟩:=h;refine⟨by simp,?_⟩;rcases h2 with⟨_,h0⟩ | ⟨g,cap,cur,e1,e2,e3,e4,e5,e6,e7⟩
 ·simp at h0
 ·injection e1 with e1 e1b e1c
  subst e1 e1c;refine .inr ⟨g,_,cur,rfl,e2,e3,by simp at e4;omega,e5,e6,?_⟩;have:=congrArg (List.take K.length) e7;rw[List.take_take] at this;simp at this
  simpa using this
theorem unit4_done(x:Hp)(hd:∀i j,i<x.cells.length→j<x.cells.length→(x.c i).st=1→(x.c j).st=0→i<j):unit4 x=toPh x 5 0:=by
 unfold unit4;obtain⟨a,b,c⟩:=fstFree_is x;rw[if_pos];rcases lstUsed_is x x.cells.length with⟨e,_⟩ | ⟨f,e,hf,h1,_⟩
 ·rw[e];omega
 ·rw[e];rcases Nat.lt_or_ge (fstFree x) x.cells.length with l | l
  ·have:=hd f _ hf l h1 (c l);omega
  ·omega
theorem unit4_go(x:Hp)(j l:Nat)(hj:j<x.cells.length)(h0:(x.c j).st=0)(hm:∀q,q<j→(x.c q).st≠0)(hl:l<x.cells.length)(h1:(x.c l).st=1)(hx:∀i,l<i→i<x.cells.length→(x.c i).st≠1)(hjl:j<l):unit4 x=moveH x j l:=by
 have e1:=fstFree_at x j hj hm h0
 have e2:lstUsed x x.cells.length=(l:Int):=by
  rcases lstUsed_is x x.cells.length with⟨_,h⟩ | ⟨f,e,hf,h2,h3⟩
  ·exact absurd h1 (h l hl)
  ·rcases Nat.lt_trichotomy f l with q | q | q
   ·exact absurd h1 (h3 l q hl)
   ·rw[e,q]
   ·exact absurd h2 (hx f q hf)
 unfold unit4;rw[e1,e2,if_neg (by omega)];rfl
theorem inv4_end{C:Nat}{x:Hp}{F:List Int}{K:List Nat}(h:SInv C x F K)(hp:x.phase=4){F':List Int}(g:GapL x F F'):SInv C (toPh x 5 0) F' [] where
 ho:=g.1
 al:=fun i hi hs=>g.2.2.2 i hi hs (h.al i hi hs)
 nn:=fun v hv=>h.nn v (g.2.2.1 v hv)
 le:=by
  have h1:=h.le;have h2:=g.2.1;have e1:remU x=8000:=by unfold remU;rw[if_neg (by omega),if_neg (by omega),if_pos (by omega)]
  have e2:remU (toPh x 5 0)=8000:=rfl;omega
 k3:=fun e=>by simp [toPh] at e
 k4:=fun e=>by simp [toPh] at e
 k0:=fun _ _=>rfl
theorem done_none{C:Nat}{x:Hp}{F:List Int}{K:List Nat}(h:SInv C x F K){F':List Int}(g:GapL x F F')(t:GapT x F' none):unit4 x=toPh x 5 0:=unit4_done x fun i j hi hj h1 h0=>by
 have:=g.2.2.2 j hj h0 (h.al j hj h0);have t':F'=[]:=t;rw[t'] at this;exact absurd this (by simp)
theorem done_nil{C:Nat}{x:Hp}{F:List Int}(h:SInv C x F [])(hp:x.phase=4):unit4 x=toPh x 5 0:=unit4_done x fun i j hi hj h1 h0=>(h.k4 hp).2.2 i hi h1 (by simp) j hj h0
theorem last_le{K:List Nat}{l:Nat}(h:(K++[l]).Pairwise (· < ·)):∀i,i∈K→i<l:=fun i hi=>(List.pairwise_append.1 h).2.2 i hi l (by simp)
theorem done_past{C:Nat}{x:Hp}{F:List Int}{K:List Nat}{l:Nat}(h:SInv C x F (K++[l]))(hp:x.phase=4){F':List Int}(g:GapL x F F'){j:Nat}(t:GapT x F' (some j))(hl:l<j):unit4 x=toPh x 5 0:=unit4_done x fun i q hi hq h1 h0=>by
 have k4:=h.k4 hp;by_cases e:i∈K++[l]
 ·have hil:i≤l:=by
   rcases List.mem_append.1 e with e | e
   ·have:=last_le k4.1 i e;omega
   ·simp at e;omega
  have:=t.2.2 q (g.2.2.2 q hq h0 (h.al q hq h0));omega
 ·exact k4.2.2 i hi h1 e q hq h0
theorem gap_least{C:Nat}{x:Hp}{F:List Int}{K:List Nat}(h:SInv C x F K){F':List Int}(g:GapL x F F'){j:Nat}(t:GapT x F' (some j)):∀q,q<x.cells.length→(x.c q).st=0→j≤q:=fun q hq h0=>by
 have:=t.2.2 q (g.2.2.2 q hq h0 (h.al q hq h0));omega
theorem moveH_c(x:Hp)(t f:Nat)(ht:t<x.cells.length)(hf:f<x.cells.length)(q:Nat):(moveH x t f).c q=if q=f then mvC t else if q=t then x.c f else x.c q:=mvd_c x t f ht hf q
theorem go_move{C:Nat}{x:Hp}{F:List Int}{K:List Nat}{l:Nat}(h:SInv C x F (K++[l]))(hp:x.phase=4){F':List Int}(g:GapL x F F'){j:Nat}(t:GapT x F' (some j))(hl:¬l<j):l<x.cells.length∧j≠l∧unit4 x=moveH x j l∧SInv C (moveH x j l) F' K:=by
 have k4:=h.k4 hp;obtain⟨hll,hl1⟩:=k4.2.1 l (by simp);have hjl:j≠l:=fun e=>by have:=t.2.1;rw[e,hl1] at this;omega
 have lt:=gap_least h g t;have c:=moveH_c x j l t.1 hll;refine⟨hll,hjl,unit4_go x j l t.1 t.2.1 (fun q hq e=>by have:=lt q (by have:=t.1;omega) e;omega) hll hl1 (fun i h1 h2 h3=>?_) (by omega),?_⟩
 ·by_cases e:i∈K++[l]
  ·rcases List.mem_append.1 e with e | e
   ·have:=last_le k4.1 i e;omega
   ·simp at e;omega
  ·have:=k4.2.2 i h2 h3 e j t.1 t.2.1;omega
 ·have len:(moveH x j l).cells.length=x.cells.length:=by simp [moveH]
  have free:∀i,((moveH x j l).c i).st=0→(x.c i).st=0∧i≠j∧i≠l:=fun i hi=>by
   rw[c i] at hi;by_cases e1:i=l
   ·rw[if_pos e1] at hi;simp [mvC] at hi
   ·rw[if_neg e1] at hi;by_cases e2:i=j
    ·rw[if_pos e2,hl1] at hi;omega
    ·rw[if_neg e2] at hi;exact⟨hi,e2,e1⟩
  refine⟨g.1,fun i hi hs=>?_,fun v hv=>h.nn v (g.2.2.1 v hv),?_,fun e=>?_,fun _=>⟨?_,fun i hi=>?_,fun i hi h1 hn q hq h0=>?_⟩,fun _ e=>absurd hp e⟩
  ·rw[len] at hi;exact g.2.2.2 i hi (free i hs).1 (h.al i hi (free i hs).1)
  ·have h1:=h.le;have h2:=g.2.1;have e1:remU x=8000:=by unfold remU;rw[if_neg (by omega),if_neg (by omega),if_pos (by omega)]
   have hp2:(moveH x j l).phase=4:=hp;have e2:remU (moveH x j l)=8000:=by unfold remU;rw[if_neg (by omega),if_neg (by omega),if_pos (by omega)]
   omega
  ·have hp2:(moveH x j l).phase=4:=hp;omega
  ·exact(List.pairwise_append.1 k4.1).1
  ·have:=last_le k4.1 i hi;obtain⟨a1,a2⟩:=k4.2.1 i (List.mem_append_left _ hi);refine⟨by rw[len];exact a1,?_⟩;rw[c i,if_neg (by omega),if_neg (fun e=>by have:=t.2.1;rw[←e,a2] at this;omega)];exact a2
  ·rw[len] at hi hq;obtain⟨f1,f2,f3⟩:=free q h0;rw[c i] at h1;by_cases e1:i=l
   ·rw[if_pos e1] at h1;simp [mvC] at h1
   ·rw[if_neg e1] at h1;by_cases e2:i=j
    ·have:=lt q hq f1;omega
    ·rw[if_neg e2] at h1;exact k4.2.2 i hi h1 (fun e=>by rcases List.mem_append.1 e with e | e;exact hn e;simp at e;exact e1 e) q hq f1
theorem look_any[Inhabited ProtD]{B:Nat}{w:World}{b:Nat}{x:Hp}{ar:Option Addr}{kr:Nat}{v4 v8:Value}{br bn:Nat}{cB cO:Nat→Nat}{pb:Nat→Nat}{pa:Nat→Option Addr}{pk:Nat→Nat}{kn hd:Nat}{vf:Value}{F:List Int}{vk:Value}{K:List Nat}{role:Nat→Nat}(h:SAt B w b x ar kr v4 v8 br cB cO bn pb pa pk kn hd vf F vk K role)(s:Snd x)(hp:x.phase=2)(hg:x.gray=[])(a:World)(ha:a.heap.size≤B)(hx:Ext a w):
  Calls Tryz.prog 330 #[.agg #[.pointer (some ⟨b,0,none⟩)]] w fun e w'=>e=.returned (nowV (unit2 x).phase b)∧Hid (SAt B w' b (unit2 x) ar kr v4 v8 br cB cO bn pb pa pk kn hd vf F vk K role)∧Ext a w':=by
 have EU:=hide (show unit2 x=if (lookH x).gray=[] then toPh (lookH x) 3 0 else lookH x by unfold unit2;rw[hg]);have H:=hide h;have S:=hide s;have SH:=hide (lkH_shd s hp);have HP:=hide hp;have XA:=(Ext.refl w).alloc (.cells #[.pointer (some ⟨b,0,none⟩)] 234);have r0:0<x.regs.length:=by have:=s.r1.regs;omega
 have r16:x.regs.length≤16:=by have:=s.r1.regs;omega
 have n8:=s.ok.n8;have c3:=h.sb.bx.2.2.2.1;rw[h.sb.ha r0] at c3;have hbw:b<w.heap.size:=h.sb.nb.1;have lo:=h.sb.lo.1;have HS:=hide (h.ext XA);have XS:=hide (hx.trans XA);have d3:=XA.keep c3;have NWC:=hide (show ∀j,j<x.cells.length→w.heap.size≠cB j from fun j hl e=>by have:=(h.rw.nc j hl).1.1;omega);have M0:=hide (show(w.alloc (.cells #[.pointer (some ⟨b,0,none⟩)] 234)).cell? ⟨w.heap.size,0,none⟩=some (.pointer (some ⟨b,0,none⟩)) by simp [go_sem]);clear h hp hg s c3 XA;go_enter Tryz.func330,Tryz.ntmps330;go_wp2_with fail;go_loopw [13] (fun i wr=>∃j:Nat,j≤x.regs.length∧i=.int .i64 j∧Hid (SAt B wr b (lkH x j) ar kr v4 v8 br cB cO bn pb pa pk kn hd vf F vk K role)∧Hid (Ext a wr)∧Hid (wr.cell? ⟨w.heap.size,0,none⟩=some (.pointer (some ⟨b,0,none⟩)))) (fun i _=>x.regs.length-(intOf i).toNat)
 case atStart=>exact⟨0,Nat.zero_le _,rfl,unhide HS,unhide XS,unhide M0⟩
 case round=>
  clear HS XS d3;obtain⟨j,hj,rfl,hG,hxr,hm0⟩:=hrel;by_cases hlt:j<x.regs.length
  ·have er:(lkH x j).regs=x.regs:=(unhide SH j).regs;obtain⟨e0,e1,e2⟩:=(unhide hG).rw.r j (by rw[er];exact hlt);have eq:(lkH x j).regs[j]'(by rw[er];exact hlt)=x.regs[j]:=by simp [er]
   rw[eq] at e0 e1 e2;have hbr:br<wr.heap.size:=cell_lt e0
   have N1:=hide (show Snd (lkH x j)∧Good1 (lkH x j) x.regs[j]∧Formed x.regs[j] (lkH x j).cells.length by
    have hs:=(unhide SH j).s;refine⟨hs,?_,?_⟩
    ·have:=hs.good_reg j (by rw[er];exact hlt);rw[eq] at this;exact this
    ·have:=(hs.r4.1 j (by rw[er];exact hlt)).1;rw[eq] at this;exact this)
   have NX:=hide (lkH_succ x j hlt);have hj0:(0:Int)≤(j:Int):=by omega
   have hj1:(j:Int)<(x.regs.length:Int):=by omega
   have XA:=(Ext.refl wr).alloc (.cells #[iv x.regs[j].k,iv x.regs[j].n,iv x.regs[j].a] 152);have H2:=hide ((unhide hG).ext XA);have X2:=hide ((unhide hxr).trans XA);have s0:=XA.keep (unhide hm0);have BCW:=hide (show ∀j,j<x.cells.length→w.heap.size≠cB j from unhide NWC);clear er eq hG hxr hm0 XA;go_wp2_with fail;go_region_with (first | (have _:=LA;go_at_call 82;refine(wshade_any (unhide H3) x.regs[j] (unhide N1).2.1 (fun q hq=>(gray_fit (unhide N1).1.ok).2 q hq) a ha (unhide X3)).mono ?_;rintro e w4 ⟨rfl,h4,x4,fr⟩;rw[←unhide NX] at h4;have H4:=hide (unhide h4);have X4:=hide x4;have FR:=hide (show ∀q,q<w3.heap.size→q≠b→(∀j,j<x.cells.length→q≠cB j)→w4.heap[q]?=w3.heap[q]? from fun q h1 h2 h3=>unhide fr q h1 h2 (fun m h4=>h3 m (by rw[(unhide SH j).len] at h4;exact h4)));clear h4 x4 fr) | (go_at_call 123;refine(wfollow_any ((unhide H2).ext (Ext.refl _).drew) (unhide N1).1.r2 x.regs[j] (unhide N1).2.1 (unhide N1).2.2).mono ?_;rintro e w3 ⟨rfl,x3⟩;have LA:=True.intro;have x23:=Ext.trans (Ext.refl _).drew x3;have H3:=hide ((unhide H2).ext x23);have X3:=hide ((unhide X2).trans x23);have t0:=x23.keep s0;have ht1:w.heap.size<w3.heap.size:=cell_lt t0;clear x3 x23))
   all_goals
    have CL:=hide (show w4.cell? ⟨w.heap.size,0,none⟩=some (.pointer (some ⟨b,0,none⟩)) from(World.cell?_of_block (a:=⟨w.heap.size,0,none⟩) (unhide FR w.heap.size ht1 (by omega) (unhide BCW))).trans t0);go_wp2_with fail;go_roundw
    case rel=>exact⟨j+1,by omega,by go_num,unhide H4,unhide X4,unhide CL⟩
    case measure=>simp [intOf];omega
  ·have je:j=x.regs.length:=by omega
   subst je;rw[lkH_all] at hG;have g0:=unhide hm0
   have SL:=hide (show Snd (lookH x)∧(lookH x).phase=2 by
    have:=unhide SH x.regs.length;rw[lkH_all] at this;exact⟨this.s,this.phase.trans (unhide HP)⟩)
   have hs0:w.heap.size<wr.heap.size:=cell_lt g0;cases hgr:(lookH x).gray with
   | nil=>
    have EF:=hide (show unit2 x=toPh (lookH x) (2+1) 0 by rw[unhide EU,if_pos hgr];rfl);have RG:=hide (show RAt wr b bn hd [] by have:=(unhide hG).sb.rg;rw[hgr] at this;exact this);clear hgr;go_wp2_with fail;refine(rfirst_none b bn hd _ (unhide RG)).mono ?_;rintro e w3 ⟨rfl,x3⟩;have k0:=x3.keep g0;have H3:=hide ((unhide hG).ext x3);have X3:=hide ((unhide hxr).trans x3);clear x3 g0 hs0;go_wp2_with fail;refine(turn_low (unhide H3) 2 (unhide SL).2 rfl rfl (by omega) a ha (unhide X3)).mono ?_;rintro e w4 ⟨rfl,h4,x4⟩;go_wp2_with fail;go_ret;exact⟨by rw[unhide EF];rfl,by rw[unhide EF];exact unhide h4,x4⟩
   | cons g G=>
    have EF:=hide (show unit2 x=lookH x by rw[unhide EU,if_neg (by rw[hgr];simp)]);have EP:=hide (show(unit2 x).phase=2 by rw[unhide EF];exact(unhide SL).2);have RG:=hide (show RAt wr b bn hd (g::G) by have:=(unhide hG).sb.rg;rw[hgr] at this;exact this);clear hgr;go_wp2_with fail;refine(rfirst_some b bn hd g G _ (unhide RG)).mono ?_;rintro e w3 ⟨rfl,x3⟩;have k0:=x3.keep g0;have H3:=hide ((unhide hG).ext x3);have X3:=hide ((unhide hxr).trans x3);have hs3:w.heap.size<w3.heap.size:=cell_lt k0;clear x3 g0 hs0;go_wp2_with fail;go_ret;exact⟨by rw[unhide EP];rfl,by rw[unhide EF];exact unhide H3,unhide X3⟩
theorem SAt.black[Inhabited ProtD]{B:Nat}{w:World}{b:Nat}{x:Hp}{ar:Option Addr}{kr:Nat}{v4 v8:Value}{br bn:Nat}{cB cO:Nat→Nat}{pb:Nat→Nat}{pa:Nat→Option Addr}{pk:Nat→Nat}{kn hd:Nat}{vf:Value}{F:List Int}{vk:Value}{K:List Nat}{role:Nat→Nat}(h:SAt B w b x ar kr v4 v8 br cB cO bn pb pa pk kn hd vf F vk K role)(i:Nat)(hi:i<x.cells.length):SAt B (w.setCell ⟨cB i,cO i+5,none⟩ (iv 2)) b { x with cells:=x.cells.set i (blackC (x.c i)) } ar kr v4 v8 br cB cO bn pb pa pk kn hd vf F vk K role:=by
 have hn:0<x.cells.length:=by omega
 refine h.setc hi rfl (Only.setCell (S:=fun q=>q=cB i) (Only.refl _ w) (p:=⟨cB i,cO i+5,none⟩) rfl _) ?_ (fun k hk=>cell_other _ (.inr (by omega))) ((h.rw.nc i hi).1.set _ _);obtain⟨a0,a1,a2,a3,a4,a5,a6⟩:=h.rw.s i hi;refine⟨?_,?_,?_,?_,?_,World.cell?_setCell_same _ _ _ a5,?_⟩
 ·rw[cell_other _ (.inr (by omega))];exact a0
 ·rw[cell_other _ (.inr (by omega))];exact a1
 ·rw[cell_other _ (.inr (by omega))];exact a2
 ·rw[cell_other _ (.inr (by omega))];exact a3
 ·rw[cell_other _ (.inr (by omega))];exact a4
 ·rw[cell_other _ (.inr (by omega))];exact a6
theorem mark_black[Inhabited ProtD]{B:Nat}{w:World}{b:Nat}{x:Hp}{ar:Option Addr}{kr:Nat}{v4 v8:Value}{br bn:Nat}{cB cO:Nat→Nat}{pb:Nat→Nat}{pa:Nat→Option Addr}{pk:Nat→Nat}{kn hd:Nat}{vf:Value}{F:List Int}{vk:Value}{K:List Nat}{role:Nat→Nat}(h:SAt B w b x ar kr v4 v8 br cB cO bn pb pa pk kn hd vf F vk K role)(n8:x.cells.length≤8000)(hp:x.phase=2)(i:Nat)(G:List Int)(hg:x.gray=(i:Int)::G)(hin:i<x.cells.length)(hks:¬x.sub<((x.c i).prs.length:Int))(a:World)(ha:a.heap.size≤B)(hx:Ext a w):
  Calls Tryz.prog 329 #[.agg #[.pointer (some ⟨b,0,none⟩)]] w fun e w'=>e=.returned (nowV (unit2 x).phase b)∧Hid (SAt B w' b (unit2 x) ar kr v4 v8 br cB cO bn pb pa pk kn ((hd+1) % 4000) vf F vk K role)∧Ext a w':=by
 have ei:((i:Int)).toNat=i:=by omega
 have E:=hide (show unit2 x={ x with cells:=x.cells.set i (blackC (x.c i)),gray:=G,sub:=0 } by
  unfold unit2;rw[hg];simp only [ei,if_neg hks])
 have EP:=hide (show(unit2 x).phase=2 by rw[unhide E];exact hp);have H:=hide h;have XA:=(Ext.refl w).alloc (.cells #[.pointer (some ⟨b,0,none⟩)] 234);have RG:=hide (show RAt w b bn hd ((i:Int)::G) by have:=h.sb.rg;rw[hg] at this;exact this);have QA:=hide (rfirst_some b bn hd i G _ ((unhide RG).block (XA.block b h.sb.nb.1)));have XA2:=hide XA;have hbw:b<w.heap.size:=h.sb.nb.1;have lo:=h.sb.lo.1;have HG:=hide hg;have hn:0<x.cells.length:=by omega
 clear h hp XA hg;go_enter Tryz.func329,Tryz.ntmps329;go_wp2_with fail;refine(unhide QA).mono ?_;rintro e w1 ⟨rfl,x1⟩;rw[ei];have r0:w1.cell? ⟨w.heap.size,0,none⟩=some (.pointer (some ⟨b,0,none⟩)):=x1.keep (by simp [go_sem]);have X1:=hide ((unhide XA2).trans x1);have H1:=hide ((unhide H).ext (unhide X1));have m1:=((unhide H1).sb.nd i hin).2;have p5:=((unhide H1).rw.s i hin).2.2.2.2.2.1;have p7:=(unhide H1).rw.p7 i hin;have c7:=(unhide H1).sb.bx.2.2.2.2.2.2.2.1;have f7:=(unhide H1).sb.nb.2 7;have fc:=((unhide H1).rw.nc i hin).1.2 (cO i+5);have hb1:b<w1.heap.size:=cell_lt c7;have hb2:w.heap.size<w1.heap.size:=cell_lt r0;have hbc:cB i<w1.heap.size:=cell_lt p5;have nbw:¬b=w.heap.size:=by omega
 have nwb:¬w.heap.size=b:=by omega
 have HBC:=hide ((unhide H).rw.nc i hin);have NBC:=hide (show ¬b=cB i from fun e=>by have h1:=(unhide H1).sp.b;have h2:=(unhide H1).sp.c i hin;rw[e] at h1;omega);clear x1 XA2 QA ei;go_wp2_with fail;go_quiet (fail);have G2:=hide (((unhide H1).ext ((Ext.refl w1).drewN nq)).black i hin);obtain⟨W2,hW2⟩:∃W,W=(w1.drewN nq).setCell ⟨cB i,cO i+5,none⟩ (iv 2):=⟨_,rfl⟩;rw[←hW2] at G2;have X2:=hide (show Ext a W2 by rw[hW2];exact((hx.trans (unhide X1)).drewN _).setCell (p:=⟨cB i,cO i+5,none⟩) (Nat.le_trans ha (unhide HBC).2) _)
 have s0:W2.cell? ⟨w.heap.size,0,none⟩=some (.pointer (some ⟨b,0,none⟩)):=by
  rw[hW2,cell_other _ (.inl (by have:=(unhide HBC).1.1;omega))];exact((Ext.refl w1).drewN nq).keep r0
 have RG2:=hide (show RAt W2 b bn hd ((i:Int)::G) by have:=(unhide G2).sb.rg;rw[←unhide HG];exact this);go_wp2_with fail;rw[←hW2];refine(rdrop_any b bn hd i G _ (unhide RG2) (unhide G2).sb.nb).mono ?_;rintro e w3 ⟨rfl,hr3⟩;have G3:=hide ((unhide G2).rdrop (unhide hr3));have o3:=(unhide hr3).2.1;have hs2:w.heap.size<W2.heap.size:=cell_lt s0;have t0:w3.cell? ⟨w.heap.size,0,none⟩=some (.pointer (some ⟨b,0,none⟩)):=(World.cell?_of_block (a:=⟨w.heap.size,0,none⟩) (o3.block w.heap.size hs2 (by omega))).trans s0;have X3:=hide (o3.ext (unhide X2) (fun q hq e=>by omega));have d7:=(unhide G3).sb.bx.2.2.2.2.2.2.2.1;have g7:=(unhide G3).sb.nb.2 7;have hb3:b<w3.heap.size:=cell_lt d7;have hs3:w.heap.size<w3.heap.size:=cell_lt t0;have FN:=hide ((unhide G3).subs 0);have XN:=hide ((unhide X3).setCell (p:=⟨b,7,none⟩) (show a.heap.size≤b by omega) (iv 0));clear hW2 o3 hr3 m1 p5 p7 c7 f7 fc r0 s0 hb1 hb2 hbc hs2;go_wp2_with fail;go_ret;exact⟨by rw[unhide EP];rfl,by rw[unhide E];exact unhide FN,unhide XN⟩
theorem roots_cell[Inhabited ProtD]{B:Nat}{w:World}{b:Nat}{x:Hp}{ar:Option Addr}{kr:Nat}{v4 v8:Value}{br bn:Nat}{cB cO:Nat→Nat}{pb:Nat→Nat}{pa:Nat→Option Addr}{pk:Nat→Nat}{kn hd:Nat}{vf:Value}{F:List Int}{vk:Value}{K:List Nat}{role:Nat→Nat}(h:SAt B w b x ar kr v4 v8 br cB cO bn pb pa pk kn hd vf F vk K role)(s:Snd x)(hp:x.phase=1)(i:Nat)(hi:x.hand=(i:Int))(hin:i<x.cells.length)(a:World)(ha:a.heap.size≤B)(hx:Ext a w):
  Calls Tryz.prog 328 #[.agg #[.pointer (some ⟨b,0,none⟩)]] w fun e w'=>e=.returned (nowV (unit1 x).phase b)∧Hid (SAt B w' b (unit1 x) ar kr v4 v8 br cB cO bn pb pa pk kn hd vf F vk K role)∧Ext a w':=by
 have ei:x.hand.toNat=i:=by omega
 have EU:=hide (show unit1 x={ (if spkB (x.c i)=true then shadeH x i else x) with hand:=(i:Int)+1 } by unfold unit1;rw[if_neg (by omega),ei,hi]);have H:=hide h;have EP:=hide (show(unit1 x).phase=1 by rw[unhide EU];split;exact((shade_same x i).2.2.2.2.2.1).trans hp;exact hp);have n8:=s.ok.n8;have XA:=(Ext.refl w).alloc (.cells #[.pointer (some ⟨b,0,none⟩)] 233);have c6:=h.sb.bx.2.2.2.2.2.2.1;rw[hi] at c6;have QA:=hide (atHand_some b x.cells.length kn bn i _ (XA.keep c6) (XA.keep h.sb.n13) hin);have GF:=hide ((gray_fit s.ok).2 i hin);have XA2:=hide XA;have hbw:b<w.heap.size:=h.sb.nb.1;have lo:=h.sb.lo.1;have HI:=hide hi;clear h hp XA s ei hi c6;go_enter Tryz.func328,Tryz.ntmps328;go_wp2_with fail;refine(unhide QA).mono ?_;rintro e w1 ⟨rfl,x1⟩;have r0:w1.cell? ⟨w.heap.size,0,none⟩=some (.pointer (some ⟨b,0,none⟩)):=x1.keep (by simp [go_sem]);have X1:=hide ((unhide XA2).trans x1);have H1:=hide ((unhide H).ext (unhide X1));have QS:=hide (sspeaks_any (x.c i) bn i (cB i) (cO i) w1 ((unhide H1).sb.nd i hin).2 ((unhide H1).rw.s i hin));clear x1 XA2 QA;go_wp2_with fail;refine(unhide QS).mono ?_;rintro e w2 ⟨rfl,hw2⟩;subst hw2;cases q:spkB (x.c i)
 ·have E:=hide (show unit1 x={ x with hand:=(i:Int)+1 } by rw[unhide EU,q];rfl);have c6:w2.cell? ⟨b,6,none⟩=some (iv i):=by have:=(unhide H1).sb.bx.2.2.2.2.2.2.1;rw[unhide HI] at this;exact this
  have f6:=(unhide H1).sb.nb.2 6;have hb1:b<w2.heap.size:=cell_lt c6;have hb2:w.heap.size<w2.heap.size:=cell_lt r0;have FN:=hide ((unhide H1).hand ((i:Int)+1));have XN:=hide ((hx.trans (unhide X1)).setCell (p:=⟨b,6,none⟩) (show a.heap.size≤b by omega) (iv ((i:Int)+1)));go_wp2_with fail;go_ret;exact⟨by rw[unhide EP];rfl,by rw[unhide E];exact unhide FN,unhide XN⟩
 ·have E:=hide (show unit1 x={ shadeH x i with hand:=(i:Int)+1 } by rw[unhide EU,q];rfl);go_wp2_with fail;refine(sshade_fr i _ (unhide H1) hin (unhide GF) a ha (hx.trans (unhide X1))).mono ?_;rintro e w3 ⟨rfl,h3,x3,fr⟩;have hb2:w.heap.size<w2.heap.size:=cell_lt r0;have hbc:cB i<w.heap.size:=((unhide H).rw.nc i hin).1.1;have r3:w3.cell? ⟨w.heap.size,0,none⟩=some (.pointer (some ⟨b,0,none⟩)):=(World.cell?_of_block (a:=⟨w.heap.size,0,none⟩) (unhide fr w.heap.size hb2 (by omega) (by omega))).trans r0;have c6:w3.cell? ⟨b,6,none⟩=some (iv i):=by have:=(unhide h3).sb.bx.2.2.2.2.2.2.1;rw[(shade_same x i).2.2.2.2.2.2.1,unhide HI] at this;exact this
  have f6:=(unhide h3).sb.nb.2 6;have hb1:b<w3.heap.size:=cell_lt c6;have hb3:w.heap.size<w3.heap.size:=cell_lt r3;have FN:=hide ((unhide h3).hand ((i:Int)+1));have XN:=hide (x3.setCell (p:=⟨b,6,none⟩) (show a.heap.size≤b by omega) (iv ((i:Int)+1)));clear r0 fr;go_wp2_with fail;go_ret;exact⟨by rw[unhide EP];rfl,by rw[unhide E];exact unhide FN,unhide XN⟩
theorem sweep_end[Inhabited ProtD]{B:Nat}{w:World}{b:Nat}{x:Hp}{ar:Option Addr}{kr:Nat}{v4 v8:Value}{br bn:Nat}{cB cO:Nat→Nat}{pb:Nat→Nat}{pa:Nat→Option Addr}{pk:Nat→Nat}{kn hd:Nat}{vf:Value}{F:List Int}{vk:Value}{K:List Nat}{role:Nat→Nat}(h:SAt B w b x ar kr v4 v8 br cB cO bn pb pa pk kn hd vf F vk K role)(hp:x.phase=3)(he:x.hand=x.cells.length)(a:World)(ha:a.heap.size≤B)(hx:Ext a w):
  Calls Tryz.prog 331 #[.agg #[.pointer (some ⟨b,0,none⟩)]] w fun e w'=>e=.returned (nowV (unit3 x).phase b)∧Hid (SAt B w' b (unit3 x) ar kr v4 v8 br cB cO bn pb pa pk kn hd vf F vk K role)∧Ext a w':=by
 have E:=hide (show unit3 x=toPh x (3+1) 0 by unfold unit3;rw[if_pos he];rfl);have H:=hide h;have HP:=hide hp;have XA:=(Ext.refl w).alloc (.cells #[.pointer (some ⟨b,0,none⟩)] 235);have QA:=hide (atHand_none x.hand b x.cells.length kn (some ⟨bn,0,none⟩) _ (XA.keep h.sb.bx.2.2.2.2.2.2.1) (XA.keep h.sb.n13) (by simpa using he));have XA2:=hide XA;have hbw:b<w.heap.size:=h.sb.nb.1;clear h hp he XA;go_enter Tryz.func331,Tryz.ntmps331;go_wp2_with fail;refine(unhide QA).mono ?_;rintro e w1 ⟨rfl,x1⟩;have r0:w1.cell? ⟨w.heap.size,0,none⟩=some (.pointer (some ⟨b,0,none⟩)):=x1.keep (by simp [go_sem]);have X1:=hide ((unhide XA2).trans x1);go_wp2_with fail;refine(turn_low ((unhide H).ext (unhide X1)) 3 (unhide HP) rfl rfl (by omega) a ha (hx.trans (unhide X1))).mono ?_;rintro e w2 ⟨rfl,h2,x2⟩;go_wp2_with fail;go_ret;exact⟨by rw[unhide E];rfl,by rw[unhide E];exact unhide h2,x2⟩
theorem unit3_free{x:Hp}(s:Snd x)(i:Nat)(hi:x.hand=(i:Int))(hin:i<x.cells.length)(hs:(x.c i).st≠1):unit3 x={ x with hand:=(i:Int)+1 }:=by
 have ei:x.hand.toNat=i:=by omega
 have h0:whiteC (x.c i)=x.c i:=by
  have hc:(x.c i).color=0:=by
   rcases s.r2.1 i hin with⟨_,b,_⟩ | ⟨_,b⟩ | ⟨a,_⟩
   ·exact b.2.2.2.2.1
   ·exact b.1.2.2.2.2.1
   ·exact absurd a hs
  unfold whiteC;rw[←hc]
 have h1:x.cells.set i (x.c i)=x.cells:=by
  rw[←Hp.c_eq x i hin];simp
 unfold unit3;rw[if_neg (by omega),ei,if_neg (by simp [whB];intro e;exact absurd e hs),h0,h1,hi]
theorem sweep_free[Inhabited ProtD]{B:Nat}{w:World}{b:Nat}{x:Hp}{ar:Option Addr}{kr:Nat}{v4 v8:Value}{br bn:Nat}{cB cO:Nat→Nat}{pb:Nat→Nat}{pa:Nat→Option Addr}{pk:Nat→Nat}{kn hd:Nat}{vf:Value}{F:List Int}{vk:Value}{K:List Nat}{role:Nat→Nat}(h:SAt B w b x ar kr v4 v8 br cB cO bn pb pa pk kn hd vf F vk K role)(s:Snd x)(hp:x.phase=3)(i:Nat)(hi:x.hand=(i:Int))(hin:i<x.cells.length)(hs:((x.c i).st == 1)=false)(a:World)(ha:a.heap.size≤B)(hx:Ext a w):
  Calls Tryz.prog 331 #[.agg #[.pointer (some ⟨b,0,none⟩)]] w fun e w'=>e=.returned (nowV (unit3 x).phase b)∧Hid (SAt B w' b (unit3 x) ar kr v4 v8 br cB cO bn pb pa pk kn hd vf F vk K role)∧Ext a w':=by
 have E:=hide (unit3_free s i hi hin (by simpa using hs));have EP:=hide (show(unit3 x).phase=3 by rw[unhide E];exact hp);have H:=hide h;have n8:=s.ok.n8;have XA:=(Ext.refl w).alloc (.cells #[.pointer (some ⟨b,0,none⟩)] 235);have c6:=h.sb.bx.2.2.2.2.2.2.1;rw[hi] at c6;have QA:=hide (atHand_some b x.cells.length kn bn i _ (XA.keep c6) (XA.keep h.sb.n13) hin);have XA2:=hide XA;have hbw:b<w.heap.size:=h.sb.nb.1;have lo:=h.sb.lo.1;have HI:=hide hi;have WH:=hide (show whB (x.c i)=false by simp [whB,hs]);clear h hp XA s hi c6;go_enter Tryz.func331,Tryz.ntmps331;go_wp2_with fail;refine(unhide QA).mono ?_;rintro e w1 ⟨rfl,x1⟩;have r0:w1.cell? ⟨w.heap.size,0,none⟩=some (.pointer (some ⟨b,0,none⟩)):=x1.keep (by simp [go_sem]);have X1:=hide ((unhide XA2).trans x1);have H1:=hide ((unhide H).ext (unhide X1));have m1:=((unhide H1).sb.nd i hin).2;have p0:=((unhide H1).rw.s i hin).1;have QS:=hide (swhite_any (x.c i) bn i (cB i) (cO i) w1 m1 ((unhide H1).rw.s i hin));rw[unhide WH] at QS;clear x1 XA2 QA;go_wp2_with fail;refine(unhide QS).mono ?_;rintro e w2 ⟨rfl,hw2⟩;subst hw2;have c6:w2.cell? ⟨b,6,none⟩=some (iv i):=by have:=(unhide H1).sb.bx.2.2.2.2.2.2.1;rw[unhide HI] at this;exact this
 have f6:=(unhide H1).sb.nb.2 6;have hb1:b<w2.heap.size:=cell_lt c6;have hb2:w.heap.size<w2.heap.size:=cell_lt r0;have FN:=hide ((unhide H1).hand ((i:Int)+1));have XN:=hide ((hx.trans (unhide X1)).setCell (p:=⟨b,6,none⟩) (show a.heap.size≤b by omega) (iv ((i:Int)+1)));go_wp2_with fail;go_ret;exact⟨by rw[unhide EP];rfl,by rw[unhide E];exact unhide FN,unhide XN⟩
theorem mark_look[Inhabited ProtD]{B:Nat}{w:World}{b:Nat}{x:Hp}{ar:Option Addr}{kr:Nat}{v4 v8:Value}{br bn:Nat}{cB cO:Nat→Nat}{pb:Nat→Nat}{pa:Nat→Option Addr}{pk:Nat→Nat}{kn hd:Nat}{vf:Value}{F:List Int}{vk:Value}{K:List Nat}{role:Nat→Nat}(h:SAt B w b x ar kr v4 v8 br cB cO bn pb pa pk kn hd vf F vk K role)(s:Snd x)(hp:x.phase=2)(hg:x.gray=[])(a:World)(ha:a.heap.size≤B)(hx:Ext a w):
  Calls Tryz.prog 329 #[.agg #[.pointer (some ⟨b,0,none⟩)]] w fun e w'=>e=.returned (nowV (unit2 x).phase b)∧Hid (SAt B w' b (unit2 x) ar kr v4 v8 br cB cO bn pb pa pk kn hd vf F vk K role)∧Ext a w':=by
 have H:=hide h;have XA:=(Ext.refl w).alloc (.cells #[.pointer (some ⟨b,0,none⟩)] 234);have RG:=hide (show RAt w b bn hd [] by have:=h.sb.rg;rw[hg] at this;exact this);have QA:=hide (rfirst_none b bn hd _ ((unhide RG).block (XA.block b h.sb.nb.1)));have QL:=hide (fun W (e:Ext w W)=>look_any (h.ext e) s hp hg a ha (hx.trans e));have XA2:=hide XA;have hbw:b<w.heap.size:=h.sb.nb.1;clear h hp hg XA s;go_enter Tryz.func329,Tryz.ntmps329;go_wp2_with fail;refine(unhide QA).mono ?_;rintro e w1 ⟨rfl,x1⟩;have r0:w1.cell? ⟨w.heap.size,0,none⟩=some (.pointer (some ⟨b,0,none⟩)):=x1.keep (by simp [go_sem]);have X1:=hide ((unhide XA2).trans x1);go_wp2_with fail;refine(unhide QL _ (unhide X1)).mono ?_;rintro e w2 ⟨rfl,h2,x2⟩;go_wp2_with fail;go_ret;exact⟨rfl,unhide h2,x2⟩
def OnlyHN(x:Hp)(Mt:List Nat):Prop:=∀i,i∈Mt→Held x i
theorem OnlyHN.add{x:Hp}{y:Wd}{Mt Mt' St St':List Nat}(h:OnlyHN x Mt)(a:AddN x y Mt Mt' St St')(hy:y.k=2→Held x (tgt x y)):OnlyHN x Mt':=fun i hi=>by
 rcases a.new hi with q | ⟨k,e,_⟩
 ·exact h i q
 ·rw[e];exact hy k
theorem WtAt.start(w:World)(bv bn on:Nat)(t:TypeId):WtAt (((w.alloc (.map #[] 0)).alloc (.map #[] 0)).alloc (.cells #[.pointer (some ⟨bv,0,none⟩),.map (some w.heap.size),.slice none 0 0,.map (some (w.heap.size+1))] t)) w.heap.size (w.heap.size+2) w.heap.size (w.heap.size+1) bn on (.slice none 0 0) (fun _=>.slice none 0 0) (fun _=>[]):=by
 have hm:(((w.alloc (.map #[] 0)).alloc (.map #[] 0)).alloc (.cells #[.pointer (some ⟨bv,0,none⟩),.map (some w.heap.size),.slice none 0 0,.map (some (w.heap.size+1))] t)).heap[w.heap.size+1]?=some (.map #[] 0):=by
  rw[Below.heap_alloc _ _ _ (by simp)];have:=heap_alloc_new (w.alloc (.map #[] 0)) (.map #[] 0)
  simpa using this
 exact⟨by simp [go_sem],⟨#[],0,[],hm,by simp [EntAre],List.nodup_nil,fun _ _=>rfl⟩,fun _=>World.ownsRow_nil _ _ _ _,fun _ _ _ _ h=>by simp [Value.ownBlock] at h,fun _ _ h=>by simp [Value.ownBlock] at h,fun _ h=>by simp [Value.ownBlock] at h,fun _ h=>by simp [Value.ownBlock] at h,fun _ h=>by simp [Value.ownBlock] at h,by omega,by omega,by simp [Value.ownBlock],by omega⟩
theorem walkH_any(x:Hp)(b:Nat)(w:World){ar:Option Addr}{kr:Nat}{ac:Nat→Option Addr}{kn:Nat}(bn on:Nat)(h:VNt w b x ar kr ac (some ⟨bn,on,none⟩) kn)(r2:R2 x)(r4:R4 x)(hn8:x.cells.length≤8000):
  Calls Tryz.prog 120 #[.pointer (some ⟨b,0,none⟩)] w fun e w'=>e=.returned (.pointer (some ⟨w.heap.size+2,0,none⟩))∧∃v Mt St,WkAt w' w.heap.size (w.heap.size+2) b w.heap.size bn on x.cells.length v Mt St∧WtAt w' w.heap.size (w.heap.size+2) w.heap.size (w.heap.size+1) bn on v (fun _=>.slice none 0 0) (fun _=>[])∧Hid (OnlyHN x Mt∧RegsN x x.regs.length Mt∧∀i,i∈Mt→i∈St)∧Ext w w':=by
 have c3:=h.H.c3;have lr:=h.H.lr;have hb:b<w.heap.size:=cell_lt c3;have HV:=hide h;have Q2:=hide r2;have Q4:=hide r4;have hmm:∀(t:TypeId) (w:World),(Instr.makeMap t none).run Tryz.prog w=.ok (.map (some w.heap.size)) (w.alloc (.map #[] 0)):=fun _ _=>rfl
 clear h r2 r4;have c4:=((((Ext.refl w).alloc (.map #[] 0)).alloc (.map #[] 0)).alloc (.cells #[.pointer (some ⟨b,0,none⟩),.map (some w.heap.size),.slice none 0 0,.map (some (w.heap.size+1))] 172)).keep c3;have S0:=hide (WkAt.start w b bn on x.cells.length 172);have T0:=hide (WtAt.start w b bn on 172);go_enter Tryz.func120,Tryz.ntmps120;go_wp2_with fail;go_loopw [17] (fun i wr=>∃(k:Nat) (v:Value) (Mt St:List Nat),k≤x.regs.length∧i=.int .i64 k∧WkAt wr w.heap.size (w.heap.size+2) b w.heap.size bn on x.cells.length v Mt St∧WtAt wr w.heap.size (w.heap.size+2) w.heap.size (w.heap.size+1) bn on v (fun _=>.slice none 0 0) (fun _=>[])∧Hid (OnlyHN x Mt∧RegsN x k Mt∧∀i,i∈Mt→i∈St)∧Ext w wr) (fun i _=>x.regs.length-(intOf i).toNat)
 case atStart=>exact⟨0,_,[],[],Nat.zero_le _,rfl,unhide S0,unhide T0,⟨(fun i hi=>by cases hi),(fun j _ hj=>by omega),fun i hi=>hi⟩,(((Ext.refl w).alloc _).alloc _).alloc _⟩
 case round=>
  clear S0 T0 c3 c4 hmm;obtain⟨k,v,Mt,St,hk,rfl,hw,hwt,hinv,hbl⟩:=hrel;have HW:=hide hw;have HT:=hide hwt;clear hw hwt;by_cases hlt:k<x.regs.length
  ·have hh:=(unhide HV).ext hbl;obtain⟨b',o,rfl,p0,p1,p2⟩:=hh.H.R k hlt;have hb':b'<wr.heap.size:=cell_lt p0;have hk0:(0:Int)≤(k:Int):=by omega
   have hk1:(k:Int)<(x.regs.length:Int):=by omega
   have xa:=(Ext.refl wr).alloc (.cells #[iv x.regs[k].k,iv x.regs[k].n,iv x.regs[k].a] 152);have MY:=hide (may_reg (unhide Q2) (unhide Q4) k hlt);clear hh;go_wp2_with fail;refine(follow_any x x.regs[k] b _ bn on ((unhide HV).ext (hbl.trans xa)).f (unhide Q2) (unhide MY)).mono ?_;rintro e w2 ⟨t,rfl,ht,hq⟩;have x2:=xa.trans hq;have HQ:=hide ht;clear ht;go_wp2_with fail;refine(meet_word x x.regs[k] w.heap.size (w.heap.size+2) b w.heap.size bn on t v Mt St _ ((unhide HW).ext x2) (unhide MY) (unhide HQ) (hbl.trans x2).size hn8).mono ?_;rintro e w3 ⟨rfl,v',M',S',hw3,ha,hkf⟩
   have R:=hide (show WkAt w3 w.heap.size (w.heap.size+2) b w.heap.size bn on x.cells.length v' M' S'∧WtAt w3 w.heap.size (w.heap.size+2) w.heap.size (w.heap.size+1) bn on v' (fun _=>.slice none 0 0) (fun _=>[])∧(OnlyHN x M'∧RegsN x (k+1) M'∧∀i,i∈M'→i∈S')∧Ext w w3 from
    ⟨hw3,((unhide HT).ext x2).step hkf,⟨(unhide hinv).1.add (unhide ha) (fun e=>Held.reg k hlt e),fun j hj hjk e=>by
     by_cases q:j=k
     ·subst q;exact(unhide ha).has e
     ·exact(unhide ha).sub.1 _ ((unhide hinv).2.1 j hj (by omega) e),fun i hi=>by
     rcases (unhide ha).new hi with q | ⟨_,_,q⟩
     ·exact(unhide ha).sub.2 i ((unhide hinv).2.2 i q)
     ·exact q⟩,((unhide HW).ext x2).kext hkf (hbl.trans x2)⟩)
   clear hw3 ha hkf;go_wp2_with fail;go_roundw
   case rel=>exact⟨k+1,v',M',S',by omega,by go_num,(unhide R).1,(unhide R).2.1,(unhide R).2.2.1,(unhide R).2.2.2⟩
   case measure=>simp [intOf];omega
  ·have hk2:k=x.regs.length:=by omega
   subst hk2;go_wp2_with fail;go_ret;exact⟨rfl,v,Mt,St,unhide HW,unhide HT,unhide hinv,hbl⟩
theorem cs_set(L:List Cl)(i q:Nat)(c:Cl):(L.set i c).getD q Cl0=if q=i∧i<L.length then c else L.getD q Cl0:=by
 simp only [List.getD_eq_getElem?_getD,List.getElem?_set];by_cases e:i=q
 ·subst e;by_cases l:i<L.length
  ·simp [l]
  ·simp [l]
 ·simp [e,Ne.symm e]
theorem lead2_un{x y:Hp}(hc:∀q,(y.c q).un=(x.c q).un)(i:Nat):lead2 y i=lead2 x i:=by
 unfold lead2;rw[(un_parts (hc i)).1,(un_parts (hc i)).2.2.2.2.2.1]
theorem tgt_un{x y:Hp}(hc:∀q,(y.c q).un=(x.c q).un)(u:Wd):tgt y u=tgt x u:=lead2_un hc _
theorem ovr_un{x y:Hp}(hr:y.regs=x.regs)(hl:y.cells.length=x.cells.length)(hc:∀q,(y.c q).un=(x.c q).un)(hb:∀j,Good y j→Good x j):Ovr x y (fun i=>i) where
 rl:=by rw[hr]
 rg:=fun k h h'=>by
  have e:y.regs[k]=x.regs[k]:=by simp only [hr]
  rw[e];exact⟨rfl,fun _=>tgt_un hc _⟩
 g:=fun i gi=>by
  have u:=un_parts (hc i);exact⟨by rw[u.1];exact gi.2.1,by rw[hl];exact gi.1,u.2.2.2.1,by rw[u.2.2.2.2.2.2]⟩
 ky:=fun i p gi hp=>by rw[un_p hc];exact⟨rfl,fun _=>tgt_un hc _⟩
 vl:=fun i p gi hp=>by rw[un_p hc];exact⟨rfl,fun _=>tgt_un hc _⟩
 b:=fun j gj=>⟨j,hb j gj,rfl⟩
 wk:=fun i _=>(un_parts (hc i)).2.2.1
 ij:=fun _ _ _ _ h=>h
theorem good_st{x y:Hp}(hl:y.cells.length=x.cells.length)(hc:∀q,(y.c q).un=(x.c q).un)(hp:x.phase≠3){j:Nat}(g:Good y j):Good x j:=
 ⟨by rw[←hl];exact g.1,by rw[←(un_parts (hc j)).1];exact g.2.1,fun d=>hp d.1⟩
theorem ovr_turn{x:Hp}(hp:x.phase≠3)(p h s r:Int):Ovr x { x with phase:=p,hand:=h,sub:=s,rounds:=r } (fun i=>i):=
 ovr_un rfl rfl (fun _=>rfl) (fun _ g=>good_st (x:=x) (y:={ x with phase:=p,hand:=h,sub:=s,rounds:=r }) rfl (fun _=>rfl) hp g)
def Col(x:Hp):Prop:=∀i,i<x.cells.length→(x.c i).color≠0→Reached x i
theorem reach_un{x y:Hp}(hr:y.regs=x.regs)(hl:y.cells.length=x.cells.length)(hc:∀q,(y.c q).un=(x.c q).un){i:Nat}(h:Reached x i):Reached y i:=by
 refine h (Reached y) (fun k hk e=>?_) (fun i hi hs sp=>?_) (fun j p hj hp e=>?_) (fun j p hj hp e=>?_)
 ·have h':k<y.regs.length:=by rw[hr];exact hk
  have e1:y.regs[k]=x.regs[k]:=by simp only [hr]
  rw[←tgt_un hc,←e1];exact Reached.reg k h' (by rw[e1];exact e)
 ·have u:=un_parts (hc i);exact Reached.last i (by rw[hl];exact hi) (by rw[u.1];exact hs) (by unfold Speaks at sp ⊢;rw[u.2.2.2.1];exact sp)
 ·rw[←tgt_un hc,←un_p hc];exact Reached.key j p hj (by rw[un_prs hc];exact hp) (by rw[un_p hc];exact e)
 ·rw[←tgt_un hc,←un_p hc];exact Reached.val j p hj (by rw[un_prs hc];exact hp) (by rw[un_p hc];exact e)
theorem Col.shade{x:Hp}(c:Col x)(i:Nat)(hi:i<x.cells.length)(r:Reached x i):Col (shadeH x i):=fun q hq hc=>by
 obtain⟨_,_,_,hr,hl,_⟩:=shade_same x i;rw[hl] at hq;refine reach_un hr hl (shade_un x i hi) ?_;rw[shade_c x i hi] at hc;by_cases e:shadeB x i=true∧q=i
 ·rw[e.2];exact r
 ·rw[if_neg e] at hc;exact c q hq hc
theorem Col.shadeW{x:Hp}(c:Col x)(y:Wd)(hy:Good1 x y)(r:y.k=2→Reached x y.a.toNat):Col (shadeW x y):=by
 unfold Go.Proofs.YtddkhnclmeikfaaGreat.shadeW
 split
 ·rename_i e;have e2:y.k=2:=by simpa using e
  exact c.shade _ (hy e2).1 (r e2)
 ·exact c
theorem Col.fold{x:Hp}(hm:Marking x):∀(ys:List Wd) (z:Hp),(∀y,y∈ys→Good1 x y∧(y.k=2→Reached x y.a.toNat))→Shd x z→Col z→Col (ys.foldl Go.Proofs.YtddkhnclmeikfaaGreat.shadeW z)
 | [],_,_,_,c=>c
 | y::ys,z,h,sh,c=>by
  have h1:=h y (by simp);rw[List.foldl_cons];exact Col.fold hm ys _ (fun u hu=>h u (by simp [hu])) (sh.step y h1.1).1 (c.shadeW y (h1.1.keep sh.len sh.un) (fun e=>reach_un sh.regs sh.len sh.un (h1.2 e)))
theorem Col.same{x y:Hp}(c:Col x)(hr:y.regs=x.regs)(hl:y.cells.length=x.cells.length)(hc:∀q,(y.c q).un=(x.c q).un)(hk:∀q,(y.c q).color≠0→(x.c q).color≠0):Col y:=fun q hq h=>reach_un hr hl hc (c q (by rw[←hl];exact hq) (hk q h))
theorem tgt_mark{x:Hp}(s:Snd x)(hp:x.phase<4){y:Wd}(hy:Good1 x y)(hk:y.k=2):tgt x y=y.a.toNat:=by
 unfold tgt lead2;rw[if_neg (by simp;exact s.nomoved hp _ (hy hk).1)]
end Go.Proofs.YtddkhnclmeikfaaGreat
namespace Go.Proofs.YtddkhnclmeikfaaGreat
open Go.RowKit Go.Lib Go.Sort Go.Shelf
attribute [local go_sem ↓] Go.wp_at_zero Go.wp_at_succ
def clN(n i:Nat):Nat:=if i<n then i else 0
theorem clN_lt{n i:Nat}(h:i<n):clN n i=i:=by simp [clN,h]
theorem clN_ok{n i:Nat}(h:0<n):clN n i<n:=by unfold clN;split <;> omega
def encN(bn on n i:Nat):Value:=ptr bn (on+clN n i*2)
def cfN(x:Hp)(i j:Nat):Int:=Lib.compareInt (x.c (clN x.cells.length i)).born (x.c (clN x.cells.length j)).born
theorem ltN(x:Hp)(i j:Nat):ltOf (cfN x) i j=decide ((x.c (clN x.cells.length i)).born<(x.c (clN x.cells.length j)).born):=by
 unfold ltOf cfN Lib.compareInt;by_cases h1:(x.c (clN x.cells.length i)).born<(x.c (clN x.cells.length j)).born
 ·simp [h1]
 ·by_cases h2:(x.c (clN x.cells.length j)).born<(x.c (clN x.cells.length i)).born <;> simp [h1,h2]
theorem swoN(x:Hp):SWO (ltOf (cfN x)):={
 irrefl:=fun i=>by rw[ltN];simp
 trans:=fun i j k h1 h2=>by rw[ltN] at *;simp at *;omega
 ntrans:=fun i j k h1 h2=>by rw[ltN] at *;simp at *;omega }
theorem block_sort{α:Type}[Inhabited α](enc:α→Value)(w:World)(blk off m k:Nat)(d:Array α)(os:Array Obj)(hk:k≠blk)(hks:k<w.heap.size):(sortWorld enc w blk off m d os).heap[k]?=w.heap[k]?:=by
 have hs:(putRow enc (Sort.ahead w m) blk off d).heap.size=w.heap.size:=by simp [putRow,mapBlock,Sort.ahead]
 show((putRow enc (Sort.ahead w m) blk off d).heap++os)[k]?=w.heap[k]?;rw[Array.getElem?_append_left (by omega)];show(w.heap.modify blk _)[k]?=w.heap[k]?;rw[Array.getElem?_modify,if_neg (by omega)]
theorem below_sort{α:Type}[Inhabited α](enc:α→Value)(w:World)(blk off m base:Nat)(d:Array α)(os:Array Obj)(hb:base≤blk)(hbs:base≤w.heap.size):Go.RowKit.Below base w (sortWorld enc w blk off m d os):=by
 have hs:(putRow enc (Sort.ahead w m) blk off d).heap.size=w.heap.size:=by simp [putRow,mapBlock,Sort.ahead]
 refine⟨rfl,rfl,rfl,?_,fun k hk=>block_sort enc w blk off m k d os (by omega) (by omega)⟩;simp [sortWorld,grow,hs]
def SrtN(x:Hp)(L:List Nat):Prop:=∀i j (hi:i<L.length) (hj:j<L.length),i<j→(x.c L[i]).born≤(x.c L[j]).born
theorem sort_some(x:Hp)(b base g cap:Nat)(Ls:List Nat)(w:World){ar:Option Addr}{kr:Nat}{ac:Nat→Option Addr}{kn:Nat}(bn on:Nat)(h:VNt w b x ar kr ac (some ⟨bn,on,none⟩) kn)(hbn:∀i,i<x.cells.length→∃bc oc,ac i=some ⟨bc,oc,none⟩∧bc<base∧bn<base)(hL:∀i,i∈Ls→i<x.cells.length)(hne:0<x.cells.length)(h8:Ls.length≤8000)
  (hc:∀j (hj:j<Ls.length),w.cell? ⟨g,j,none⟩=some (ptr bn (on+Ls[j]*2))∧w.frozen? ⟨g,j,none⟩=false) (hg:base≤g) (hgs:g<w.heap.size) (hbs:base≤w.heap.size) :
  Calls Tryz.prog 167 #[.slice (some ⟨g,0,none⟩) Ls.length cap,.func (.func 168) #[] #[]] w fun e w'=>e=.returned (.tuple #[])∧∃Ls',Hid (List.Perm Ls' Ls)∧Hid (∀j (hj:j<Ls'.length),w'.cell? ⟨g,j,none⟩=some (ptr bn (on+Ls'[j]*2)))∧Hid (SrtN x Ls')∧Go.RowKit.Below base w w':=by
 have eg:∀args w,(callFunc 168 args).run Tryz.prog w=.ok (.enter 168 args) w:=enters_of Tryz.func168 (by kernel_rfl) rfl
 have hH:Holds (encN bn on x.cells.length) w g 0 Ls.toArray:=fun j hj=>by
  have hj':j<Ls.length:=by simpa using hj
  have:=hc j hj';rw[getElem!_pos _ j hj];simp only [Nat.zero_add,encN,List.getElem_toArray];rw[clN_lt (hL _ (List.getElem_mem hj'))];exact this
 have hR:CmpReads Tryz.prog 168 #[] (encN bn on x.cells.length) (cfN x) g 0 Ls.toArray.size w:=fun m os dk hdk i j=>by
  have key:∀i,∃bc oc,(sortWorld (encN bn on x.cells.length) w g 0 m dk os).cell? ⟨bn,on+clN x.cells.length i*2+1,none⟩=some (ptr bc oc)∧(sortWorld (encN bn on x.cells.length) w g 0 m dk os).cell? ⟨bc,oc+4,none⟩=some (iv (x.c (clN x.cells.length i)).born):=fun i=>by
   obtain⟨bc,oc,e0,l1,l2⟩:=hbn _ (clN_ok (i:=i) hne);obtain⟨bn',on',bc',oc',a1,a2,_,a3⟩:=h.N _ (clN_ok (i:=i) hne);obtain⟨bc2,oc2,ap,kp,a4,C⟩:=h.H.cell _ (clN_ok (i:=i) hne);rw[e0] at a2 a4;cases a1;cases a2;cases a4;exact⟨bc,oc,(World.cell?_of_block (w:=w) (a:=⟨bn,_,none⟩) (block_sort _ _ _ _ _ bn _ _ (by omega) (by omega))).trans a3,(World.cell?_of_block (w:=w) (a:=⟨bc,_,none⟩) (block_sort _ _ _ _ _ bc _ _ (by omega) (by omega))).trans C.p4⟩
  obtain⟨bc,oc,k1,k2⟩:=key i;obtain⟨bd,od,k3,k4⟩:=key j;exact spk_closure _ _ bn _ _ bc bd _ _ _ k1 k2 k3 k4
 have hS:=Any.slices_SortFunc Tryz.sortL (encN bn on x.cells.length) (fun _=>rfl) (cfN x) (swoN x) 168 #[] g 0 cap Ls.toArray w eg hR.lays hH hgs (by simp;omega);change Calls Tryz.prog 167 _ _ _ at hS;refine hS.mono fun e w' ⟨he,d',n,os,hp,hsd,hw⟩=>⟨he,d'.toList,?_,?_,?_,?_⟩
 ·obtain⟨q1,_,q3⟩:=hp;have e1:d'.extract 0 Ls.toArray.size=d':=by rw[←q1];simp
  have e2:Ls.toArray.extract 0 Ls.toArray.size=Ls.toArray:=by simp
  rw[e1,e2] at q3;exact q3
 ·obtain⟨q1,_,q3⟩:=hp;have e1:d'.extract 0 Ls.toArray.size=d':=by rw[←q1];simp
  have e2:Ls.toArray.extract 0 Ls.toArray.size=Ls.toArray:=by simp
  rw[e1,e2] at q3;intro j hj;have hj':j<d'.size:=by simpa using hj
  have:=(holds_sortWorld (encN bn on x.cells.length) w g 0 n Ls.toArray d' os hgs hH q1 j hj').1;rw[getElem!_pos _ j hj',←hw] at this;simp only [Nat.zero_add,encN] at this;rw[clN_lt (hL _ (q3.mem_iff.1 (Array.getElem_mem_toList hj')))] at this
  simpa using this
 ·obtain⟨q1,_,q3⟩:=hp;have e1:d'.extract 0 Ls.toArray.size=d':=by rw[←q1];simp
  have e2:Ls.toArray.extract 0 Ls.toArray.size=Ls.toArray:=by simp
  rw[e1,e2] at q3;intro i j hi hj hij;have hi':i<d'.size:=by simpa using hi
  have hj':j<d'.size:=by simpa using hj
  have:=hsd i j (Nat.zero_le _) hij (by omega);rw[getElem!_pos _ i hi',getElem!_pos _ j hj',ltN,clN_lt (hL _ (q3.mem_iff.1 (Array.getElem_mem_toList hi'))),clN_lt (hL _ (q3.mem_iff.1 (Array.getElem_mem_toList hj')))] at this;simp at this
  simpa using this
 ·rw[hw];exact below_sort _ _ _ _ _ _ _ _ hg hbs
end Go.Proofs.YtddkhnclmeikfaaGreat
namespace Go.Proofs.YtddkhnclmeikfaaGreat
open Go.RowKit
attribute [local go_sem ↓] Go.wp_at_zero Go.wp_at_succ
theorem sort_none(p:Option Addr)(cap:Nat)(w:World):
  Calls Tryz.prog 167 #[.slice p 0 cap,.func (.func 168) #[] #[]] w fun e w'=>e=.returned (.tuple #[])∧w'=w:=
 AnyF.slices_SortFunc_none (P:=Tryz.prog) (ρ:=Tryz.sortL_ren) { Tryz.sortL with } p cap (.func (.func 168) #[] #[]) w
theorem sort_own(x:Hp)(b base:Nat)(v:Value)(Ls:List Nat)(w:World){ar:Option Addr}{kr:Nat}{ac:Nat→Option Addr}{kn:Nat}(bn on:Nat)(h:VNt w b x ar kr ac (some ⟨bn,on,none⟩) kn)(hbn:∀i,i<x.cells.length→∃bc oc,ac i=some ⟨bc,oc,none⟩∧bc<base∧bn<base)(hL:∀i,i∈Ls→i<x.cells.length)(h8:Ls.length≤8000)
  (hv:w.ownsRow base 126 1 v Ls.length (Ls.map (fun i=>ptr bn (on+i*2)))) (hbs:base≤w.heap.size) :
  Calls Tryz.prog 167 #[v,.func (.func 168) #[] #[]] w fun e w'=>e=.returned (.tuple #[])∧Hid (∃g cap Ls',v=.slice g Ls'.length cap∧List.Perm Ls' Ls∧(∀j (hj:j<Ls'.length),∃gb go,g=some ⟨gb,go,none⟩∧w'.cell? ⟨gb,go+j,none⟩=some (ptr bn (on+Ls'[j]*2))∧base≤gb)∧SrtN x Ls')∧Below base w w':=by
 by_cases h0:Ls=[]
 ·subst h0
  obtain⟨p,cap,rfl⟩:∃p cap,v=.slice p 0 cap:=by
   rcases hv.2 with⟨e,_⟩ | ⟨g,cap,cur,e,_⟩
   ·exact⟨none,0,e⟩
   ·exact⟨_,_,e⟩
  exact(sort_none p cap w).mono fun _ _ ⟨he,hw⟩=>by subst hw;exact⟨he,⟨p,cap,[],rfl,List.Perm.refl _,(fun j hj=>by simp at hj),fun i j hi=>by simp at hi⟩,Below.refl _ _⟩
 ·have hpos:0<Ls.length:=List.length_pos_iff.2 h0;rcases hv.2 with⟨_,e⟩ | ⟨g,cap,cur,rfl,hg,hb,_⟩
  ·omega
  ·have hgs:g<w.heap.size:=by
    rcases Nat.lt_or_ge g w.heap.size with q | q
    ·exact q
    ·rw[Array.getElem?_eq_none q] at hb;cases hb
   have hne:0<x.cells.length:=by have:=hL _ (List.getElem_mem hpos);omega
   have hc:∀j (hj:j<Ls.length),w.cell? ⟨g,j,none⟩=some (ptr bn (on+Ls[j]*2))∧w.frozen? ⟨g,j,none⟩=false:=fun j hj=>by
    refine⟨?_,World.ownsRow.frozenAt hv j⟩;rw[World.ownsRow.cellAt hv j (by omega)];simp [List.getElem?_eq_getElem hj]
   exact(sort_some x b base g cap Ls w bn on h hbn hL hne h8 hc hg hgs hbs).mono fun _ w' ⟨he,L',hp,hc',hsr,hbl⟩=>⟨he,⟨some ⟨g,0,none⟩,cap,L',by rw[(unhide hp).length_eq],unhide hp,fun j hj=>⟨g,0,rfl,by rw[Nat.zero_add];exact unhide hc' j hj,hg⟩,unhide hsr⟩,hbl⟩
def spk(x:Hp)(k:Nat):List Nat:=(List.range k).filter (fun i=>speaksN (x.c i))
theorem spk_no{x:Hp}{k:Nat}(h:speaksN (x.c k)=false):spk x (k+1)=spk x k:=by simp [spk,List.range_succ,List.filter_append,h]
theorem spk_yes{x:Hp}{k:Nat}(h:speaksN (x.c k)=true):spk x (k+1)=spk x k++[k]:=by simp [spk,List.range_succ,List.filter_append,h]
theorem spk_len(x:Hp)(k:Nat):(spk x k).length≤k:=by have:=List.length_filter_le (fun i=>speaksN (x.c i)) (List.range k);simpa [spk] using this
theorem spk_mem{x:Hp}{k i:Nat}:i∈spk x k↔i<k∧Speaks (x.c i):=by simp [spk,speaksN_iff]
theorem row_ext{a w w2:World}{T:TypeId}{v:Value}{n:Nat}{vs:List Value}{o:Obj}(h:w.ownsRow a.heap.size T 1 v n vs)(e:Ext a w)(hg:(w.alloc o).grownBy w2 v.ownBlock):Ext a w2:=by
 have hs:w.heap.size+1≤w2.heap.size:=by have:=hg.size;simpa using this
 refine Below.trans e ⟨hg.os,hg.tape,hg.output,by omega,fun k hk=>?_⟩;have hkw:k<w.heap.size:=Nat.lt_of_lt_of_le hk e.size;rw[hg.block k (by simp;omega) (fun f=>by have:=(h.lt k f.symm).1;omega),Below.heap_alloc _ o k hkw]
theorem speakers_ord(x:Hp)(b:Nat)(w:World){ar:Option Addr}{kr:Nat}{ac:Nat→Option Addr}{kn:Nat}(bn on:Nat)(h:VNt w b x ar kr ac (some ⟨bn,on,none⟩) kn)(hn8:x.cells.length≤8000):
  Calls Tryz.prog 102 #[.pointer (some ⟨b,0,none⟩)] w fun e w'=>∃(g:Option Addr) (cap:Nat) (Ls:List Nat),Hid (e=.returned (.slice g Ls.length cap))∧Hid (SpAns x w w' g bn on Ls)∧Hid (SrtN x Ls∧Ls.Perm (spk x x.cells.length))∧Ext w w':=by
 obtain⟨i0,hi0,hy0,hy1,hy2⟩:=info_parts infoNodeP;have n13:=h.n13;have HV:=hide h;clear h;go_enter Tryz.func102,Tryz.ntmps102;go_wp2_with fail;go_loopw [3,10] (fun v i wr=>∃(k:Nat),k≤x.cells.length∧i=.int .i64 k∧Hid (wr.ownsRow w.heap.size 126 1 v (spk x k).length ((spk x k).map (fun i=>ptr bn (on+i*2))))∧Ext w wr) (fun _ i _=>x.cells.length-(intOf i).toNat)
 case atStart=>exact⟨0,Nat.zero_le _,rfl,World.ownsRow_nil _ _ _ _,Ext.refl w⟩
 case round=>
  clear n13;obtain⟨k,hk,rfl,hrw,hbl⟩:=hrel;have hlen:=spk_len x k;by_cases hlt:k<x.cells.length
  ·have hh:=(unhide HV).ext hbl;have n13:=hh.n13;obtain⟨bc,oc,ap,kp,e1,C⟩:=hh.H.cell k hlt;obtain⟨bn',on',bc',oc',e2,e3,m0,m1⟩:=hh.N k hlt;rw[e1] at e3;cases e2;cases e3;have HC:=hide C;have hb0:b<wr.heap.size:=cell_lt n13;have hk0:(0:Int)≤(k:Int):=by omega
   have hk1:(k:Int)<(x.cells.length:Int):=by omega
   clear hh C m0 e1;go_wp2_with fail;refine(speaks_any (x.c k) bn (on+k*2) bc oc ap kp _ m1 (unhide HC)).mono ?_;rintro e w1 ⟨rfl,rfl⟩;clear m1 HC;cases t:speaksN (x.c k)
   ·have R:=hide (show _ from spk_no t ▸ unhide hrw);clear t;go_wp2_with fail;go_roundw
    case rel=>exact⟨k+1,by omega,by go_num,unhide R,hbl⟩
    case measure=>simp [intOf];omega
   ·have T:=hide t;clear t;go_wp2_with (at_builtin;refine wpList_append_lies _ rfl _ _ 130 rfl w.heap.size 126 i0 (.pointer none) 1 8 Tryz.underlying130 hi0 hy0 hy1 hy2 rfl (by decide) _ (spk x k).length ((spk x k).map (fun i=>ptr bn (on+i*2))) rfl ((unhide hrw).alloc _) _ 1 1 [ptr bn (on+k*2)] rfl rfl ?c1 ?c2 (by decide) ?c3 ?c4 ?c5 _ rfl ?_)
    case c1=>
     intro j u hj
     match j,hj with
     | 0,hj=>simp at hj;subst hj;simp [Addr.add]
    case c2=>intro u hu;simp at hu;subst hu;rfl
    case c3=>unfold maxLen;omega
    case c4=>have:=hbl.size;simp;omega
    case c5=>have:=hbl.size;simp;omega
    intro g cap w2 hown hgrow hat hglt;have R:=hide (And.intro (show w2.ownsRow w.heap.size 126 1 (.slice (some ⟨g,0,none⟩) ((spk x k).length+1) cap) (spk x (k+1)).length ((spk x (k+1)).map (fun i=>ptr bn (on+i*2))) by rw[spk_yes (unhide T)];simpa using hown) (row_ext (unhide hrw) hbl hgrow));clear hown hgrow hat hglt;go_wp2_with fail;go_roundw
    case rel=>exact⟨k+1,by omega,by go_num,(unhide R).1,(unhide R).2⟩
    case measure=>simp [intOf];omega
  ·have hk2:k=x.cells.length:=by omega
   subst hk2;have VB:=hide ((unhide HV).ext hbl)
   have BB:=hide (show ∀i,i<x.cells.length→∃bc oc,ac i=some ⟨bc,oc,none⟩∧bc<w.heap.size∧bn<w.heap.size from fun i hi=>by
    obtain⟨bn',on',bc,oc,e1,e2,m0,_⟩:=(unhide HV).N i hi;obtain⟨bc2,oc2,ap,kp,e3,C⟩:=(unhide HV).H.cell i hi;rw[e2] at e3;cases e1;cases e3;exact⟨bc,oc,e2,cell_lt C.p0,cell_lt m0⟩)
   go_wp2_with fail;refine(sort_own x b w.heap.size _ (spk x x.cells.length) _ bn on (unhide VB) (unhide BB) (fun i hi=>(spk_mem.1 hi).1) (by omega) (unhide hrw) hbl.size).mono ?_;rintro e w3 ⟨rfl,hs,hb3⟩;have x3:Ext w w3:=Below.trans hbl hb3;go_wp2_with fail;go_ret;obtain⟨g,cap,L',e,hp,hc,hsr⟩:=unhide hs;exact⟨g,cap,L',by show _=_;rw[e];rfl,⟨hc,by have:=hp.length_eq;omega,fun i=>by rw[hp.mem_iff];exact spk_mem⟩,⟨hsr,hp⟩,x3⟩
theorem speakers_any(x:Hp)(b:Nat)(w:World){ar:Option Addr}{kr:Nat}{ac:Nat→Option Addr}{kn:Nat}(bn on:Nat)(h:VNt w b x ar kr ac (some ⟨bn,on,none⟩) kn)(hn8:x.cells.length≤8000):
  Calls Tryz.prog 102 #[.pointer (some ⟨b,0,none⟩)] w fun e w'=>∃(g:Option Addr) (cap:Nat) (Ls:List Nat),Hid (e=.returned (.slice g Ls.length cap))∧Hid (SpAns x w w' g bn on Ls)∧Ext w w':=
 (speakers_ord x b w bn on h hn8).mono fun _ _ ⟨g,cap,Ls,a,b,_,c⟩=>⟨g,cap,Ls,a,b,c⟩
theorem sum_any(x:Hp)(b r1:Nat)(Mt:List Nat)(w:World){ar:Option Addr}{kr:Nat}{ac:Nat→Option Addr}{kn:Nat}(bn on:Nat)(h:VNt w b x ar kr ac (some ⟨bn,on,none⟩) kn)(hm:MapAt w r1 bn (Mt.map (fun i=>on+i*2)))(hr:r1<w.heap.size)(hn8:x.cells.length≤8000)(h200:∀i,i<x.cells.length→(x.c i).prs.length≤200):
  Calls Tryz.prog 70 #[.pointer (some ⟨b,0,none⟩),.map (some r1)] w fun e w'=>∃u:Nat,Hid (e=.returned (.int .i64 (u:Int)))∧Hid (u=sumTo x (fun i=>decide (i∈Mt)) x.cells.length)∧Ext w w':=by
 have n13:=h.n13;have HV:=hide h;have HM:=hide hm;have HL:=hide (fun k hk=>sumTo_le (p:=fun i=>decide (i∈Mt)) h200 k hk);clear h hm;go_enter Tryz.func70,Tryz.ntmps70;go_wp2_with fail;go_loopw [5,13] (fun n i wr=>∃(k u:Nat),k≤x.cells.length∧i=.int .i64 k∧n=.int .i64 u∧Hid (u=sumTo x (fun i=>decide (i∈Mt)) k)∧Ext w wr) (fun _ i _=>x.cells.length-(intOf i).toNat)
 case atStart=>exact⟨0,0,Nat.zero_le _,rfl,rfl,rfl,Ext.refl w⟩
 case round=>
  clear n13;obtain⟨k,u,hk,rfl,rfl,hu,hbl⟩:=hrel;have hul:u≤201*k:=by have:=unhide hu;rw[this];exact unhide HL k hk
  by_cases hlt:k<x.cells.length
  ·have hh:=(unhide HV).ext hbl;have n13:=hh.n13;have hl:=h200 k hlt;have hk0:(0:Int)≤(k:Int):=by omega
   have hk1:(k:Int)<(x.cells.length:Int):=by omega
   have M2:=hide ((unhide HM).block (hbl.block r1 hr));clear hh;go_wp2_with fail;refine(has_any r1 bn (on+k*2) _ _ (unhide M2)).mono ?_;rintro e w1 ⟨rfl,hq⟩;have x2:=hbl.trans hq;clear n13;by_cases tp:k∈Mt
   ·have E:decide (on+k*2∈Mt.map (fun i=>on+i*2))=true:=decide_eq_true (mem_off.2 tp);rw[E];clear E;have U2:=hide (show u+(1+(x.c k).prs.length)=sumTo x (fun i=>decide (i∈Mt)) (k+1) by have:=unhide hu;simp only [sumTo,decide_eq_true tp];simp;omega);obtain⟨b',o,ap,kp,e1,p0,p1,p2,p3,p4,p5,p6,p7,lp,P⟩:=((unhide HV).ext x2).H.cell k hlt;obtain⟨bn',on',bc,oc,e2,e3,m0,m1⟩:=((unhide HV).ext x2).N k hlt;rw[e1] at e3;cases e2;cases e3;clear P p0 p1 p2 p3 p4 p5 p6 tp e1;go_wp2_with fail;refine(units_any (x.c k) bn (on+k*2) _ _ ap kp _ m1 p7 lp).mono ?_;rintro e w2 ⟨rfl,rfl⟩;go_wp2_with fail;go_roundw
    case rel=>exact⟨k+1,u+(1+(x.c k).prs.length),by omega,by go_num,by go_num,unhide U2,x2⟩
    case measure=>simp [intOf];omega
   ·have E:decide (on+k*2∈Mt.map (fun i=>on+i*2))=false:=decide_eq_false (fun f=>tp (mem_off.1 f));rw[E];clear E;have U2:=hide (show u=sumTo x (fun i=>decide (i∈Mt)) (k+1) by have:=unhide hu;simp only [sumTo,decide_eq_false tp];simp;exact this);clear tp;go_wp2_with fail;go_roundw
    case rel=>exact⟨k+1,u,by omega,by go_num,rfl,unhide U2,x2⟩
    case measure=>simp [intOf];omega
  ·have hk2:k=x.cells.length:=by omega
   have U:=hide (show u=sumTo x (fun i=>decide (i∈Mt)) x.cells.length by have:=unhide hu;rw[hk2] at this;exact this);clear hk2;go_wp2_with fail;go_ret;exact⟨u,rfl,unhide U,hbl⟩
end Go.Proofs.YtddkhnclmeikfaaGreat
