import Derived.Test.YtddkhnclmeikfaaGreatGx
import Derived.Test.YtddkhnclmeikfaaGreatWh3
import Derived.Test.YtddkhnclmeikfaaGreatMa
import Derived.ArgAppend
import Derived.Laws.CopyRow
import Derived.Laws.ResultCell
import Derived.LoopIn
import Derived.LoopNIn
import Derived.OwnWalkIn
import Derived.RangeFuncBound
import Derived.RangeFuncCalls
import Derived.RangeFuncLeaves
import Derived.RangeFuncNested
import Derived.Shelf.Abstract
import Derived.Shelf.RegionOpen
import Derived.TacticsInMore
set_option maxRecDepth 100000
set_option maxHeartbeats 1000000
namespace Go.Proofs.YtddkhnclmeikfaaGreat
open Go.RowKit
attribute [local go_sem ↓] Go.wp_at_zero Go.wp_at_succ
attribute [local go_sem] Oper.semAt_some
def fN(z:Nd×Value):List Value:=[iv z.1.kind,iv z.1.weak,iv z.1.last,iv z.1.rank,z.2]
theorem ownN{w:World}{base:Nat}{v:Value}{L:List (Nd×Value)}(h:w.ownsRow base 99 5 v L.length (L.flatMap fN))(hl:L.length≤1048576)(hp:∀z,z∈L→SlP w z.2 z.1.prs):SlN w v (L.map (·.1)):=by
 obtain⟨ad,cap,e,_,hx⟩:=own_cells (f:=fN) (fun _=>rfl) h;refine⟨ad,cap,by rw[e,List.length_map],by rw[List.length_map];omega,fun i hi=>?_⟩;have hi':i<L.length:=by simpa using hi
 obtain⟨g,ea,_,_,hc⟩:=hx i hi';rw[List.getElem_map];exact⟨g,0,ea,L[i].2,by have:=hc 0 (by omega);simpa [fN] using this,by have:=hc 1 (by omega);simpa [fN] using this,by have:=hc 2 (by omega);simpa [fN] using this,by have:=hc 3 (by omega);simpa [fN] using this,by have:=hc 4 (by omega);simpa [fN] using this,hp _ (List.getElem_mem hi')⟩
def WhP(w:World)(B n k:Nat)(O:List Nat):Prop:=(∀i,i<n→∃v,w.cell? ⟨B,i,none⟩=some (iv v)∧(O.idxOf i<k→v=((O.idxOf i:Nat):Int))∧w.frozen? ⟨B,i,none⟩=false)∧B<w.heap.size
theorem WhP.step{w:World}{B n k:Nat}{O:List Nat}(h:WhP w B n k O)(hO:O.Nodup)(hk:k<O.length):WhP (w.setCell ⟨B,O[k],none⟩ (iv (k:Nat))) B n (k+1) O:=by
 refine⟨fun i hi=>?_,by have:=h.2;simpa [World.setCell] using this⟩;obtain⟨v,a,b,c⟩:=h.1 i hi;by_cases e:i=O[k]
 ·subst e;refine⟨(k:Nat),World.cell?_setCell_same _ _ _ a,fun _=>by rw[hO.idxOf_getElem k hk],by rw[World.frozen?_setCell];exact c⟩
 ·refine⟨v,by rw[cell_other _ (.inr (fun z=>e z.symm))];exact a,fun hlt=>b ?_,by rw[World.frozen?_setCell];exact c⟩
  have:O.idxOf i≠k:=fun z=>e (by
   have h1:O.idxOf i<O.length:=by omega
   have h2:O[O.idxOf i]=i:=List.getElem_idxOf h1;rw[←h2];congr 1)
  omega
theorem WhP.at{w:World}{B n:Nat}{O:List Nat}(h:WhP w B n O.length O):WhAt w B n O:=⟨fun i hi=>let ⟨v,a,b,_⟩:=h.1 i hi;⟨v,a,fun hm=>b (List.idxOf_lt_length_iff.2 hm)⟩,h.2⟩
theorem mkIntU(n:Nat)(hn:n≤1048576)(w:World):(Instr.makeSlice 32 (.int .i64 n) (.int .i64 n)).run Tryz.prog w=.ok (.slice (some ⟨w.heap.size,0,none⟩) n n) (w.alloc (.cells (madeCells #[iv 0] n) 3)):=by
 obtain⟨i0,hi,hz0,hz1,hz2⟩:=info_parts infoInts;have h:=run_make (P:=Tryz.prog) w 32 3 i0 _ Tryz.underlying32 hi hz0 .i64 .i64 n n (by omega) (Int.le_refl _) (by rw[hz2];omega) (by omega);rw[hz1] at h;simp only [Int.toNat_natCast,Nat.mul_one] at h;exact h
theorem WhP.start(w:World)(n:Nat)(O:List Nat)(t:TypeId):WhP (w.alloc (.cells (madeCells #[iv 0] n) t)) w.heap.size n 0 O:=by
 have e:(w.alloc (.cells (madeCells #[iv 0] n) t)).heap[w.heap.size]?=some (.cells (madeCells #[iv 0] n) t):=heap_alloc_new w _;refine⟨fun i hi=>⟨0,?_,fun h=>by omega,(made_open w _ n t i hi).2⟩,by simp⟩;rw[cell_of_row _ w.heap.size i _ _ (0,0) e,←Array.getElem?_toList,toList_madeCells_one];simp [hi]
theorem zs_len(O:List Nat):(zs O).length=O.length:=by simp [zs]
def rkJ(N:List Nat)(k j:Nat):Int:=if N.idxOf j<k then ((N.idxOf j:Nat):Int)+1 else 0
theorem rkJ_zero(N:List Nat)(j:Nat):rkJ N 0 j=0:=by simp [rkJ]
theorem rkJ_hit{N:List Nat}(hn:N.Nodup){k j:Nat}(hk:k<N.length)(e:N[k]=j):rkJ N (k+1) j=(k:Int)+1:=by
 subst e;unfold rkJ;rw[hn.idxOf_getElem k hk,if_pos (by omega)]
theorem rkJ_miss{N:List Nat}{k j:Nat}(hk:k<N.length)(e:N[k]≠j):rkJ N (k+1) j=rkJ N k j:=by
 have:N.idxOf j≠k:=fun z=>e (by
  have h1:N.idxOf j<N.length:=by omega
  have h2:N[N.idxOf j]=j:=List.getElem_idxOf h1;rw[←h2];congr 1;exact z.symm)
 unfold rkJ;by_cases h:N.idxOf j<k
 ·rw[if_pos h,if_pos (by omega)]
 ·rw[if_neg h,if_neg (by omega)]
def nodeOf(x:Hp)(O N:List Nat)(j:Nat):Nd:=⟨(x.c j).kind,(x.c j).weak,(x.c j).last,rkJ N N.length j,(x.c j).prs.map (np x O)⟩
structure NS(x:Hp)(O N:List Nat)(w3 w6 wr:World)(vn:Value)(k:Nat)(L:List (Nd×Value)):Prop where
 own:wr.ownsRow w6.heap.size 99 5 vn k (L.flatMap fN)
 eq:L.map (·.1)=(O.take k).map (nodeOf x O N)
 prs:∀z,z∈L→wr.ownsRow w6.heap.size 154 6 z.2 z.1.prs.length (z.1.prs.flatMap fP)∧∀q,z.2.ownBlock=some q→vn.ownBlock≠some q
 c0:wr.cell? ⟨w3.heap.size,0,none⟩=w6.cell? ⟨w3.heap.size,0,none⟩
 c1:wr.cell? ⟨w3.heap.size,1,none⟩=some vn
 fz:∀o,wr.frozen? ⟨w3.heap.size,o,none⟩=false
 on:Only (fun q=>q=w3.heap.size) w6 wr
 ex:Ext w3 wr
 lt:w3.heap.size<w6.heap.size
theorem NS.ext{x:Hp}{O N:List Nat}{w3 w6 wr w':World}{vn:Value}{k:Nat}{L:List (Nd×Value)}(h:NS x O N w3 w6 wr vn k L)(e:Ext wr w'):NS x O N w3 w6 w' vn k L where
 own:=ownsRow_of_block h.own (fun q hq=>e.block q (h.own.lt q hq).2)
 eq:=h.eq
 prs:=fun z hz=>⟨ownsRow_of_block (h.prs z hz).1 (fun q hq=>e.block q ((h.prs z hz).1.lt q hq).2),(h.prs z hz).2⟩
 c0:=(World.cell?_of_block (a:=⟨w3.heap.size,0,none⟩) (e.block _ (Nat.lt_of_lt_of_le h.lt h.on.size))).trans h.c0
 c1:=e.keep h.c1
 fz:=fun o=>((bcell e).2 _ o (Nat.lt_of_lt_of_le h.lt h.on.size)).trans (h.fz o)
 on:=h.on.trans ⟨e.os,e.tape,e.output,e.size,fun q hq _=>e.block q hq⟩
 ex:=h.ex.trans e
 lt:=h.lt
theorem NS.push{x:Hp}{O N:List Nat}{w3 w6 W w5:World}{vn v':Value}{k B7 g:Nat}{L:List (Nd×Value)}{z:Nd×Value}(h:NS x O N w3 w6 W vn k L)(hk:k<O.length)(hz:z.1=nodeOf x O N O[k])(hg:W.grownBy w5 vn.ownBlock)(h5:w5.ownsRow w6.heap.size 99 5 v' (k+1) (L.flatMap fN++fN z))
  (hv':v'.ownBlock=some g) (hat:vn.ownBlock=some g∨g=W.heap.size) (hp:W.ownsRow B7 154 6 z.2 z.1.prs.length (z.1.prs.flatMap fP)) (h7:w6.heap.size≤B7) (hvn:∀q,vn.ownBlock=some q→q<B7) :
  NS x O N w3 w6 (w5.setCell ⟨w3.heap.size,1,none⟩ v') v' (k+1) (L++[z]):=by
 have hbW:w3.heap.size<W.heap.size:=Nat.lt_of_lt_of_le h.lt h.on.size;obtain⟨b1,b2,b3,b4,b5,b6⟩:=box_push (o:=1) (u:=v') (bg:=w3.heap.size) h.lt h.ex h.own (Nat.le_refl _) hbW hg h5;refine⟨by simpa using b1,?_,fun y hy=>?_,(b3 0 (by omega)).trans h.c0,b5 _ h.c1,fun o=>(b4 o).trans (h.fz o),?_,b2,h.lt⟩
 ·rw[List.map_append,h.eq,List.take_succ_eq_append_getElem hk,List.map_append];simp [hz]
 ·have key:W.ownsRow w6.heap.size 154 6 y.2 y.1.prs.length (y.1.prs.flatMap fP)∧∀q,y.2.ownBlock=some q→vn.ownBlock≠some q:=by
   rcases List.mem_append.1 hy with q | q
   ·exact h.prs y q
   ·rw[List.mem_singleton] at q;subst q;exact⟨own_less hp h7,fun q e e'=>by have:=(hp.lt q e).1;have:=hvn q e';omega⟩
  refine⟨ownsRow_of_block key.1 (fun q hq=>b6 q (key.1.lt q hq).2 (fun e=>by have:=(key.1.lt q hq).1;have:=h.lt;omega) (key.2 q hq)),fun q e e'=>?_⟩;rw[hv'] at e'
  injection e' with e'
  subst e';rcases hat with r | r
  ·exact key.2 g e r
  ·have:=(key.1.lt g e).2;omega
 ·exact⟨hg.os.trans h.on.os,hg.tape.trans h.on.tape,hg.output.trans h.on.output,by have:=hg.size;have:=h.on.size;simp only [World.setCell,Array.size_modify];omega,fun q hq hne=>(b6 q (Nat.lt_of_lt_of_le hq h.on.size) hne (fun e=>by have:=(h.own.lt q e).1;omega)).trans (h.on.block q hq hne)⟩
structure NB(wr W:World)(c:Cl)(ap:Option Addr)(kp:Nat)(r:Int)(v:Value):Prop where
 p7:W.cell? ⟨wr.heap.size,7,none⟩=some (.slice ap c.prs.length kp)
 n0:W.cell? ⟨wr.heap.size+1,0,none⟩=some (iv c.kind)
 n1:W.cell? ⟨wr.heap.size+1,1,none⟩=some (iv c.weak)
 n2:W.cell? ⟨wr.heap.size+1,2,none⟩=some (iv c.last)
 n3:W.cell? ⟨wr.heap.size+1,3,none⟩=some (iv r)
 n4:W.cell? ⟨wr.heap.size+1,4,none⟩=some v
 f:∀o,W.frozen? ⟨wr.heap.size+1,o,none⟩=false
 ex:Ext wr W
theorem NB.ext{wr W W':World}{c:Cl}{ap:Option Addr}{kp:Nat}{r:Int}{v:Value}(h:NB wr W c ap kp r v)(e:Ext W W'):NB wr W' c ap kp r v:=
 ⟨e.keep h.p7,e.keep h.n0,e.keep h.n1,e.keep h.n2,e.keep h.n3,e.keep h.n4,fun o=>((bcell e).2 _ o (cell_lt h.n0)).trans (h.f o),h.ex.trans e⟩
theorem NB.rank{wr W:World}{c:Cl}{ap:Option Addr}{kp:Nat}{r r':Int}{v:Value}(h:NB wr W c ap kp r v):NB wr (W.setCell ⟨wr.heap.size+1,3,none⟩ (iv r')) c ap kp r' v:=
 ⟨by rw[cell_other _ (.inl (by omega))];exact h.p7,by rw[cell_other _ (.inr (by omega))];exact h.n0,by rw[cell_other _ (.inr (by omega))];exact h.n1,by rw[cell_other _ (.inr (by omega))];exact h.n2,World.cell?_setCell_same _ _ _ h.n3,by rw[cell_other _ (.inr (by omega))];exact h.n4,fun o=>by rw[World.frozen?_setCell];exact h.f o,h.ex.setCell (Nat.le_succ _) _⟩
theorem NB.push{wr W w5:World}{c:Cl}{ap:Option Addr}{kp:Nat}{r:Int}{v v':Value}{B7 n n':Nat}{xs ys:List Value}(h:NB wr W c ap kp r v)(hW:W.ownsRow B7 154 6 v n xs)(h7:wr.heap.size+1<B7)(hg:W.grownBy w5 v.ownBlock)(h5:w5.ownsRow B7 154 6 v' n' ys):
  (w5.setCell ⟨wr.heap.size+1,4,none⟩ v').ownsRow B7 154 6 v' n' ys∧NB wr (w5.setCell ⟨wr.heap.size+1,4,none⟩ v') c ap kp r v':=by
 obtain⟨b1,b2,b3,b4,b5,b6⟩:=box_push (o:=4) (u:=v') (bg:=wr.heap.size+1) h7 h.ex hW (Nat.le_succ _) (cell_lt h.n0) hg h5;refine⟨b1,?_,(b3 0 (by omega)).trans h.n0,(b3 1 (by omega)).trans h.n1,(b3 2 (by omega)).trans h.n2,(b3 3 (by omega)).trans h.n3,b5 _ h.n4,fun o=>(b4 o).trans (h.f o),b2⟩;exact(World.cell?_of_block (a:=⟨wr.heap.size,7,none⟩) (b6 wr.heap.size (cell_lt h.p7) (by omega) (fun e=>by have:=(hW.lt _ e).1;omega))).trans h.p7
theorem NB.start(wr:World)(c:Cl)(ap:Option Addr)(kp:Nat)(t1 t2:TypeId):NB wr ((wr.alloc (.cells #[iv c.st,iv c.kind,iv c.weak,iv c.last,iv c.born,iv c.color,iv c.to,.slice ap c.prs.length kp] t1)).alloc (.cells #[iv c.kind,iv c.weak,iv c.last,iv 0,.slice none 0 0] t2)) c ap kp 0 (.slice none 0 0):=
 ⟨by simp [go_sem],by simp [go_sem],by simp [go_sem],by simp [go_sem],by simp [go_sem],by simp [go_sem],fun o=>by simp [go_sem],((Ext.refl wr).alloc _).alloc _⟩
theorem SAt.black[Inhabited ProtD]{B:Nat}{w:World}{b:Nat}{x:Hp}{ar:Option Addr}{kr:Nat}{v4 v8:Value}{br bn:Nat}{cB cO:Nat→Nat}{pb:Nat→Nat}{pa:Nat→Option Addr}{pk:Nat→Nat}{kn hd:Nat}{vf:Value}{F:List Int}{vk:Value}{K:List Nat}{role:Nat→Nat}(h:SAt B w b x ar kr v4 v8 br cB cO bn pb pa pk kn hd vf F vk K role)(i:Nat)(hi:i<x.cells.length):SAt B (w.setCell ⟨cB i,cO i+5,none⟩ (iv 2)) b { x with cells:=x.cells.set i (blackC (x.c i)) } ar kr v4 v8 br cB cO bn pb pa pk kn hd vf F vk K role:=by
 have hn:0<x.cells.length:=by omega
 refine h.setc hi rfl (Only.setCell (S:=fun q=>q=cB i) (Only.refl _ w) (p:=⟨cB i,cO i+5,none⟩) rfl _) ?_ (fun k hk=>cell_other _ (.inr (by omega))) ((h.rw.nc i hi).1.set _ _);obtain⟨a0,a1,a2,a3,a4,a5,a6⟩:=h.rw.s i hi;refine⟨?_,?_,?_,?_,?_,World.cell?_setCell_same _ _ _ a5,?_⟩
 ·rw[cell_other _ (.inr (by omega))];exact a0
 ·rw[cell_other _ (.inr (by omega))];exact a1
 ·rw[cell_other _ (.inr (by omega))];exact a2
 ·rw[cell_other _ (.inr (by omega))];exact a3
 ·rw[cell_other _ (.inr (by omega))];exact a4
 ·rw[cell_other _ (.inr (by omega))];exact a6
theorem mark_black[Inhabited ProtD]{B:Nat}{w:World}{b:Nat}{x:Hp}{ar:Option Addr}{kr:Nat}{v4 v8:Value}{br bn:Nat}{cB cO:Nat→Nat}{pb:Nat→Nat}{pa:Nat→Option Addr}{pk:Nat→Nat}{kn hd:Nat}{vf:Value}{F:List Int}{vk:Value}{K:List Nat}{role:Nat→Nat}(h:SAt B w b x ar kr v4 v8 br cB cO bn pb pa pk kn hd vf F vk K role)(n8:x.cells.length≤8000)(hp:x.phase=2)(i:Nat)(G:List Int)(hg:x.gray=(i:Int)::G)(hin:i<x.cells.length)(hks:¬x.sub<((x.c i).prs.length:Int))(a:World)(ha:a.heap.size≤B)(hx:Ext a w):
  Calls Tryz.prog 329 #[.agg #[.pointer (some ⟨b,0,none⟩)]] w fun e w'=>e=.returned (nowV (unit2 x).phase b)∧Hid (SAt B w' b (unit2 x) ar kr v4 v8 br cB cO bn pb pa pk kn ((hd+1) % 4000) vf F vk K role)∧Ext a w':=by
 have ei:((i:Int)).toNat=i:=by omega
 have E:=hide (show unit2 x={ x with cells:=x.cells.set i (blackC (x.c i)),gray:=G,sub:=0 } by
  unfold unit2;rw[hg];simp only [ei,if_neg hks])
 have EP:=hide (show(unit2 x).phase=2 by rw[unhide E];exact hp);have H:=hide h;have XA:=(Ext.refl w).alloc (.cells #[.pointer (some ⟨b,0,none⟩)] 234);have RG:=hide (show RAt w b bn hd ((i:Int)::G) by have:=h.sb.rg;rw[hg] at this;exact this);have QA:=hide (rfirst_some b bn hd i G _ ((unhide RG).block (XA.block b h.sb.nb.1)));have XA2:=hide XA;have hbw:b<w.heap.size:=h.sb.nb.1;have lo:=h.sb.lo.1;have HG:=hide hg;have hn:0<x.cells.length:=by omega
 clear h hp XA hg;go_enter Tryz.func329,Tryz.ntmps329;go_wp2_with fail;refine(unhide QA).mono ?_;rintro e w1 ⟨rfl,x1⟩;rw[ei];have r0:w1.cell? ⟨w.heap.size,0,none⟩=some (.pointer (some ⟨b,0,none⟩)):=x1.keep (by simp [go_sem]);have X1:=hide ((unhide XA2).trans x1);have H1:=hide ((unhide H).ext (unhide X1));have m1:=((unhide H1).sb.nd i hin).2;have p5:=((unhide H1).rw.s i hin).2.2.2.2.2.1;have p7:=(unhide H1).rw.p7 i hin;have c7:=(unhide H1).sb.bx.2.2.2.2.2.2.2.1;have f7:=(unhide H1).sb.nb.2 7;have fc:=((unhide H1).rw.nc i hin).1.2 (cO i+5);have hb1:b<w1.heap.size:=cell_lt c7;have hb2:w.heap.size<w1.heap.size:=cell_lt r0;have hbc:cB i<w1.heap.size:=cell_lt p5;have nbw:¬b=w.heap.size:=by omega
 have nwb:¬w.heap.size=b:=by omega
 have HBC:=hide ((unhide H).rw.nc i hin);have NBC:=hide (show ¬b=cB i from fun e=>by have h1:=(unhide H1).sp.b;have h2:=(unhide H1).sp.c i hin;rw[e] at h1;omega);clear x1 XA2 QA ei;go_wp2_with fail;go_quiet (fail);have G2:=hide (((unhide H1).ext ((Ext.refl w1).drewN nq)).black i hin);obtain⟨W2,hW2⟩:∃W,W=(w1.drewN nq).setCell ⟨cB i,cO i+5,none⟩ (iv 2):=⟨_,rfl⟩;rw[←hW2] at G2;have X2:=hide (show Ext a W2 by rw[hW2];exact((hx.trans (unhide X1)).drewN _).setCell (p:=⟨cB i,cO i+5,none⟩) (Nat.le_trans ha (unhide HBC).2) _)
 have s0:W2.cell? ⟨w.heap.size,0,none⟩=some (.pointer (some ⟨b,0,none⟩)):=by
  rw[hW2,cell_other _ (.inl (by have:=(unhide HBC).1.1;omega))];exact((Ext.refl w1).drewN nq).keep r0
 have RG2:=hide (show RAt W2 b bn hd ((i:Int)::G) by have:=(unhide G2).sb.rg;rw[←unhide HG];exact this);go_wp2_with fail;rw[←hW2];refine(rdrop_any b bn hd i G _ (unhide RG2) (unhide G2).sb.nb).mono ?_;rintro e w3 ⟨rfl,hr3⟩;have G3:=hide ((unhide G2).rdrop (unhide hr3));have o3:=(unhide hr3).2.1;have hs2:w.heap.size<W2.heap.size:=cell_lt s0;have t0:w3.cell? ⟨w.heap.size,0,none⟩=some (.pointer (some ⟨b,0,none⟩)):=(World.cell?_of_block (a:=⟨w.heap.size,0,none⟩) (o3.block w.heap.size hs2 (by omega))).trans s0;have X3:=hide (o3.ext (unhide X2) (fun q hq e=>by omega));have d7:=(unhide G3).sb.bx.2.2.2.2.2.2.2.1;have g7:=(unhide G3).sb.nb.2 7;have hb3:b<w3.heap.size:=cell_lt d7;have hs3:w.heap.size<w3.heap.size:=cell_lt t0;have FN:=hide ((unhide G3).subs 0);have XN:=hide ((unhide X3).setCell (p:=⟨b,7,none⟩) (show a.heap.size≤b by omega) (iv 0));clear hW2 o3 hr3 m1 p5 p7 c7 f7 fc r0 s0 hb1 hb2 hbc hs2;go_wp2_with fail;go_ret;exact⟨by rw[unhide EP];rfl,by rw[unhide E];exact unhide FN,unhide XN⟩
def im(φ:Nat→Nat)(p:Nat→Bool):Nat→Nat→Bool
 | 0,_=>false
 | k+1,j=>im φ p k j || (p k && j == φ k)
theorem im_iff(φ:Nat→Nat)(p:Nat→Bool):∀k j,im φ p k j=true↔∃i,i<k∧p i=true∧j = φ i
 | 0,j=>by simp [im]
 | k+1,j=>by
  unfold im;rw[Bool.or_eq_true,im_iff φ p k j,Bool.and_eq_true,beq_iff_eq];constructor
  ·rintro(⟨i,a,b⟩ | ⟨a,b⟩)
   ·exact⟨i,by omega,b⟩
   ·exact⟨k,by omega,a,b⟩
  ·rintro⟨i,a,b,c⟩;by_cases e:i=k
   ·subst e;exact .inr ⟨b,c⟩
   ·exact .inl ⟨i,by omega,b,c⟩
theorem sum_over{x y:Hp}{φ:Nat→Nat}(o:Ovr x y φ){p q:Nat→Bool}(hp:∀i,p i=true→Good x i)(hq:∀j,q j=true↔∃i,p i=true∧j = φ i):sumTo y q y.cells.length=sumTo x p x.cells.length:=by
 have key:∀k,S0 (fun j=>if im φ p k j=true then 1+(y.c j).prs.length else 0) y.cells.length=S0 (fun i=>if p i then 1+(x.c i).prs.length else 0) k:=fun k=>by
  induction k with
  | zero=>exact(S0_congr _ (fun j _=>by simp [im])).trans (S0_zero _)
  | succ k ih=>
   show _=S0 _ k+(if p k=true then _ else _);by_cases e:p k=true
   ·have g:=hp k e
    have c:∀j,j<y.cells.length→(if im φ p (k+1) j=true then 1+(y.c j).prs.length else 0)=(fun j=>(if im φ p k j=true then 1+(y.c j).prs.length else 0)+(if j = φ k then 1+(y.c j).prs.length else 0)) j:=fun j _=>by
     show(if (im φ p k j || (p k && j == φ k))=true then _ else _)=(if im φ p k j=true then _ else _)+(if j = φ k then _ else _);by_cases a:j = φ k
     ·have n:im φ p k j=false:=by
       cases h:im φ p k j
       ·rfl
       ·obtain⟨i,hi,pi,q⟩:=(im_iff φ p k j).1 h;have:=o.ij i k (hp i pi) g (q.symm.trans a);omega
      rw[n,e,if_pos a];simp [a]
     ·rw[if_neg a,e];simp [a]
    rw[S0_congr _ c,S0_add,ih,S0_point,if_pos (o.g k g).2.1,(o.g k g).2.2.2,if_pos e]
   ·have c:∀j,j<y.cells.length→(if im φ p (k+1) j=true then 1+(y.c j).prs.length else 0)=(if im φ p k j=true then 1+(y.c j).prs.length else 0):=fun j _=>by
     have:im φ p (k+1) j=im φ p k j:=by show(im φ p k j || (p k && j == φ k))=im φ p k j;simp [e]
     rw[this]
    rw[S0_congr _ c,ih,if_neg e];rfl
 rw[S0_sum,S0_sum,←key x.cells.length];refine S0_congr _ (fun j _=>?_)
 have:q j=im φ p x.cells.length j:=by
  rw[Bool.eq_iff_iff,hq,im_iff];exact⟨fun⟨i,a,b⟩=>⟨i,(hp i a).1,a,b⟩,fun⟨i,_,a,b⟩=>⟨i,a,b⟩⟩
 rw[this]
theorem Ovr.lives{x y:Hp}{φ:Nat→Nat}(o:Ovr x y φ)(s:Snd x)(t:Snd y){r:Nat}(l:LiveIs x r):LiveIs y r:=by
 classical
 obtain⟨_,p,hp,rfl⟩ | ⟨no,_⟩:=l
 ·refine .inl ⟨t.ok,fun j=>decide (Reached y j),fun j=>by simp,?_⟩;refine(sum_over o (fun i h=>Reached.good s.r2 s.r4 ((hp i).1 h)) (fun j=>?_)).symm;rw[decide_eq_true_eq];exact⟨fun h=>by obtain⟨i,a,b⟩:=o.from s t h;exact⟨i,(hp i).2 a,b⟩,fun⟨i,a,b⟩=>by rw[b];exact o.to s ((hp i).1 a)⟩
 ·exact absurd s.ok no
def OnlyHN(x:Hp)(Mt:List Nat):Prop:=∀i,i∈Mt→Held x i
theorem OnlyHN.add{x:Hp}{y:Wd}{Mt Mt' St St':List Nat}(h:OnlyHN x Mt)(a:AddN x y Mt Mt' St St')(hy:y.k=2→Held x (tgt x y)):OnlyHN x Mt':=fun i hi=>by
 rcases a.new hi with q | ⟨k,e,_⟩
 ·exact h i q
 ·rw[e];exact hy k
theorem WtAt.start(w:World)(bv bn on:Nat)(t:TypeId):WtAt (((w.alloc (.map #[] 0)).alloc (.map #[] 0)).alloc (.cells #[.pointer (some ⟨bv,0,none⟩),.map (some w.heap.size),.slice none 0 0,.map (some (w.heap.size+1))] t)) w.heap.size (w.heap.size+2) w.heap.size (w.heap.size+1) bn on (.slice none 0 0) (fun _=>.slice none 0 0) (fun _=>[]):=by
 have hm:(((w.alloc (.map #[] 0)).alloc (.map #[] 0)).alloc (.cells #[.pointer (some ⟨bv,0,none⟩),.map (some w.heap.size),.slice none 0 0,.map (some (w.heap.size+1))] t)).heap[w.heap.size+1]?=some (.map #[] 0):=by
  rw[Below.heap_alloc _ _ _ (by simp)];have:=heap_alloc_new (w.alloc (.map #[] 0)) (.map #[] 0)
  simpa using this
 exact⟨by simp [go_sem],⟨#[],0,[],hm,by simp [EntAre],List.nodup_nil,fun _ _=>rfl⟩,fun _=>World.ownsRow_nil _ _ _ _,fun _ _ _ _ h=>by simp [Value.ownBlock] at h,fun _ _ h=>by simp [Value.ownBlock] at h,fun _ h=>by simp [Value.ownBlock] at h,fun _ h=>by simp [Value.ownBlock] at h,fun _ h=>by simp [Value.ownBlock] at h,by omega,by omega,by simp [Value.ownBlock],by omega⟩
theorem sumTo_mono{x:Hp}{p q:Nat→Bool}(h:∀i,p i=true→q i=true)(k:Nat):sumTo x p k≤sumTo x q k:=by
 induction k with
 | zero=>simp [sumTo]
 | succ k ih=>have:=h k;simp only [sumTo];grind
theorem sumTo_as{x y:Hp}{p:Nat→Bool}(h:∀i,(y.c i).prs.length=(x.c i).prs.length)(k:Nat):sumTo y p k=sumTo x p k:=by
 induction k with
 | zero=>rfl
 | succ k ih=>simp only [sumTo,ih,h]
theorem sum_as{x y:Hp}{p:Nat→Bool}{m:Nat}(hl:y.cells.length=x.cells.length)(h:∀i,(y.c i).prs.length=(x.c i).prs.length)(c:sumTo x p x.cells.length≤m):sumTo y p y.cells.length≤m:=by rw[hl,sumTo_as h];exact c
def gdB(x:Hp)(i:Nat):Bool:=decide (i<x.cells.length) && ((x.c i).st == 1) && !((x.phase == 3) && decide (x.hand≤(i:Int)) && ((x.c i).color == 0))
theorem gdB_iff{x:Hp}{i:Nat}:gdB x i=true↔Good x i:=by
 unfold gdB Good Doomed;simp only [Bool.and_eq_true,decide_eq_true_eq,beq_iff_eq,Bool.not_eq_true',Bool.and_eq_false_iff,decide_eq_false_iff_not,beq_eq_false_iff_ne];constructor
 ·rintro⟨⟨a,b⟩,c⟩;exact⟨a,b,fun d=>by rcases c with(c | c) | c;exact c d.1;exact c d.2.1;exact c d.2.2.2⟩
 ·rintro⟨a,b,c⟩;refine⟨⟨a,b⟩,?_⟩;by_cases e:x.phase=3
  ·by_cases f:x.hand≤(i:Int)
   ·exact .inr fun g=>c ⟨e,f,b,g⟩
   ·exact .inl (.inr f)
  ·exact .inl (.inl e)
def gS(x:Hp):Nat:=sumTo x (gdB x) x.cells.length
theorem gS_unit{x:Hp}(s:Snd x):gS (unitH x)≤gS x:=by
 obtain⟨φ,o⟩:=s.ovrU
 have e:=sum_over o (p:=fun i=>gdB x i && gdB (unitH x) (φ i)) (q:=gdB (unitH x)) (fun i h=>gdB_iff.1 (by simp at h;exact h.1)) (fun j=>⟨fun h=>by
  obtain⟨i,gi,e⟩:=o.b j (gdB_iff.1 h);exact⟨i,by rw[←e,h,gdB_iff.2 gi];rfl,e⟩,fun⟨i,h,e⟩=>by simp at h;rw[e];exact h.2⟩)
 unfold gS;rw[e];exact sumTo_mono (fun i h=>by simp at h;exact h.1) _
theorem units_app(a b:List Cl):units (a++b)=units a+units b:=by simp [units]
theorem sum_used(x:Hp):∀k,k≤x.cells.length→sumTo x (fun i=>(x.c i).st == 1) k=units (x.cells.take k)
 | 0,_=>by simp [sumTo,units]
 | k+1,h=>by
  have:=sum_used x k (by omega);rw[List.take_succ_eq_append_getElem (by omega),units_app,←this];simp only [sumTo,units,List.map_cons,List.map_nil,List.sum_cons,List.sum_nil,unitsOf,Hp.c_eq x k (by omega)];by_cases e:(x.c k).st=1 <;> simp [e]
theorem Snd.gS_used{x:Hp}(s:Snd x)(hp:x.phase≠3):x.used=gS x:=by
 have u:=s.r3.1;have a:=sum_used x x.cells.length (Nat.le_refl _);rw[List.take_length] at a;rw[u,←a];unfold gS
 have:∀k,k≤x.cells.length→sumTo x (fun i=>(x.c i).st == 1) k=sumTo x (gdB x) k:=fun k=>by
  induction k with
  | zero=>intro _;rfl
  | succ k ih=>
   intro h
   have e:gdB x k=((x.c k).st == 1):=by
    rw[Bool.eq_iff_iff,gdB_iff];unfold Good Doomed;simp only [beq_iff_eq];exact⟨fun h=>h.2.1,fun q=>⟨by omega,q,fun d=>hp d.1⟩⟩
   simp only [sumTo,ih (by omega),e]
 rw[this _ (Nat.le_refl _)]
structure Cp(x:Hp)(P:Nat→Prop):Prop where
 g:∀i,P i→Good x i
 rg:∀k (h:k<x.regs.length),x.regs[k].k=2→P (tgt x x.regs[k])
 ky:∀i p,P i→p<(x.c i).prs.length→((x.c i).p p).key.k=2→P (tgt x ((x.c i).p p).key)
 vl:∀i p,P i→p<(x.c i).prs.length→((x.c i).p p).val.k=2→P (tgt x ((x.c i).p p).val)
def Cw(x:Hp)(P:Nat→Prop):Prop:=∀i,i<x.cells.length→(x.c i).color≠0→P i
def NoSpk(x:Hp):Prop:=∀i,¬Speaks (x.c i)
theorem Snd.cpR{x:Hp}(s:Snd x):Cp x (Reached x):=⟨fun _ h=>Reached.good s.r2 s.r4 h,fun k h e=>Reached.reg k h e,fun i p h hp e=>Reached.key i p h hp e,fun i p h hp e=>Reached.val i p h hp e⟩
theorem Cp.in{x:Hp}{P:Nat→Prop}(c:Cp x P)(ns:NoSpk x){i:Nat}(h:Reached x i):P i:=h P c.rg (fun i _ _ sp=>(ns i sp).elim) (fun j p a b e=>c.ky j p a b e) (fun j p a b e=>c.vl j p a b e)
theorem Cp.un{x y:Hp}{P:Nat→Prop}(c:Cp x P)(hp:y.phase≠3)(hr:y.regs=x.regs)(hl:y.cells.length=x.cells.length)(hc:∀q,(y.c q).un=(x.c q).un):Cp y P where
 g:=fun i h=>⟨by rw[hl];exact(c.g i h).1,by rw[(un_parts (hc i)).1];exact(c.g i h).2.1,fun d=>hp d.1⟩
 rg:=fun k h e=>by
  have e1:y.regs[k]=x.regs[k]'(by rw[←hr];exact h):=by simp only [hr]
  rw[e1] at e ⊢;rw[tgt_un hc];exact c.rg k _ e
 ky:=fun i p h hp e=>by rw[un_prs hc] at hp;rw[un_p hc] at e ⊢;rw[tgt_un hc];exact c.ky i p h hp e
 vl:=fun i p h hp e=>by rw[un_prs hc] at hp;rw[un_p hc] at e ⊢;rw[tgt_un hc];exact c.vl i p h hp e
theorem Cw.shade{x:Hp}{P:Nat→Prop}(c:Cw x P)(i:Nat)(hi:i<x.cells.length)(r:P i):Cw (shadeH x i) P:=fun q hq hc=>by
 rw[(shade_same x i).2.2.2.2.1] at hq;rw[shade_c x i hi] at hc;by_cases e:shadeB x i=true∧q=i
 ·rw[e.2];exact r
 ·rw[if_neg e] at hc;exact c q hq hc
theorem Cw.shadeW{x:Hp}{P:Nat→Prop}(c:Cw x P)(y:Wd)(hy:Good1 x y)(r:y.k=2→P y.a.toNat):Cw (shadeW x y) P:=by
 unfold Go.Proofs.YtddkhnclmeikfaaGreat.shadeW
 split
 ·rename_i e;have e2:y.k=2:=by simpa using e
  exact c.shade _ (hy e2).1 (r e2)
 ·exact c
theorem Cw.fold{x:Hp}{P:Nat→Prop}(hm:Marking x):∀(ys:List Wd) (z:Hp),(∀y,y∈ys→Good1 x y∧(y.k=2→P y.a.toNat))→Shd x z→Cw z P→Cw (ys.foldl Go.Proofs.YtddkhnclmeikfaaGreat.shadeW z) P
 | [],_,_,_,c=>c
 | y::ys,z,h,sh,c=>by
  have h1:=h y (by simp);rw[List.foldl_cons];exact Cw.fold hm ys _ (fun u hu=>h u (by simp [hu])) (sh.step y h1.1).1 (c.shadeW y (h1.1.keep sh.len sh.un) h1.2)
theorem Cp.reg{x:Hp}{P:Nat→Prop}(c:Cp x P)(s:Snd x)(hp:x.phase<4)(i:Nat)(hi:i<x.regs.length)(hk:x.regs[i].k=2):P x.regs[i].a.toNat:=by
 rw[←tgt_mark s hp (s.good_reg i hi) hk];exact c.rg i hi hk
structure Jn(x:Hp)(m:Nat):Prop where
 mq:Marking x→∃Q:Nat→Bool,Cp x (fun i=>Q i=true)∧Cw x (fun i=>Q i=true)∧sumTo x Q x.cells.length≤m
 sw:3≤x.phase→gS x≤m
theorem Snd.phase_up{x:Hp}(s:Snd x)(h0:x.phase≠0):(unitH x).phase=0∨x.phase≤(unitH x).phase:=by
 have l:=s.less h0;have py:=s.unit.r1.phase;have px:=s.r1.phase;have bx:=s.pbound;unfold mu at l;rw[if_neg h0] at l
 split at l
 ·exact .inl (by assumption)
 ·exact .inr (by omega)
theorem Jn.u1{x:Hp}{m:Nat}(j:Jn x m)(ns:NoSpk x)(hp:x.phase=1):Jn (unit1 x) m:=by
 obtain⟨Q,a,b,c⟩:=j.mq (.inl hp);have e:¬spkB (x.c x.hand.toNat)=true:=fun e=>ns _ ((spkB_iff _).1 e)
 unfold unit1
 split
 ·exact⟨fun _=>⟨Q,a.un (y:=toPh x 2 0) (by show(2:Int)≠3;decide) rfl rfl (fun _=>rfl),b,sum_as (x:=x) rfl (fun _=>rfl) c⟩,fun h=>by have h':(3:Int)≤2:=h;omega⟩
 ·show Jn { x with hand:=x.hand+1 } m;exact⟨fun _=>⟨Q,a.un (y:={ x with hand:=x.hand+1 }) (by show x.phase≠3;omega) rfl rfl (fun _=>rfl),b,sum_as (x:=x) rfl (fun _=>rfl) c⟩,fun h=>by have h':(3:Int)≤x.phase:=h;omega⟩
theorem Jn.u2{x:Hp}{m:Nat}(s:Snd x)(j:Jn x m)(hp:x.phase=2):Jn (unit2 x) m:=by
 have hm:Marking x:=.inr hp;obtain⟨Q,a,b,c⟩:=j.mq hm;unfold unit2
 split
 ·rename_i g G hg;have h5:=s.r5.2.2 g (by rw[hg];simp);have hgl:g.toNat<x.cells.length:=by omega
  have cg:(x.c g.toNat).color=1:=(gray_in s.r5 g.toNat hgl).1 (by rw[hg];simp;omega);have qg:=b g.toNat hgl (by omega)
  split
  ·rename_i hs;have hsb:=s.r1.sub;have hk:x.sub.toNat<(x.c g.toNat).prs.length:=by omega
   obtain⟨g1,g2⟩:=s.good_pair hm g.toNat x.sub.toNat hgl hk;obtain⟨ra,la,pa,ha,sa⟩:=shadeW_same x ((x.c g.toNat).p x.sub.toNat).key;have ua:=shadeW_un x ((x.c g.toNat).p x.sub.toNat).key g1;have g2':=g2.keep la ua;obtain⟨rb,lb,pb,hb,sb⟩:=shadeW_same (shadeW x ((x.c g.toNat).p x.sub.toNat).key) ((x.c g.toNat).p x.sub.toNat).val;have ub:=shadeW_un _ ((x.c g.toNat).p x.sub.toNat).val g2';have uc:∀q,((shadeW (shadeW x ((x.c g.toNat).p x.sub.toNat).key) ((x.c g.toNat).p x.sub.toNat).val).c q).un=(x.c q).un:=fun q=>(ub q).trans (ua q)
   have hl:=lb.trans la;have hr:=rb.trans ra
   have rk:((x.c g.toNat).p x.sub.toNat).key.k=2→Q ((x.c g.toNat).p x.sub.toNat).key.a.toNat=true:=fun e=>by
    rw[←tgt_mark s (by omega) g1 e];exact a.ky _ _ qg hk e
   have rv:((x.c g.toNat).p x.sub.toNat).val.k=2→Q ((x.c g.toNat).p x.sub.toNat).val.a.toNat=true:=fun e=>by
    rw[←tgt_mark s (by omega) g2 e];exact a.vl _ _ qg hk e
   have ph:(shadeW (shadeW x ((x.c g.toNat).p x.sub.toNat).key) ((x.c g.toNat).p x.sub.toNat).val).phase=2:=by omega
   refine⟨fun _=>⟨Q,a.un (y:={ shadeW (shadeW x ((x.c g.toNat).p x.sub.toNat).key) ((x.c g.toNat).p x.sub.toNat).val with sub:=x.sub+1 }) (by show(shadeW (shadeW x _) _).phase≠3;omega) hr hl uc,(b.shadeW _ g1 rk).shadeW _ g2' rv,?_⟩,fun h=>?_⟩
   ·show sumTo _ Q (shadeW (shadeW x ((x.c g.toNat).p x.sub.toNat).key) ((x.c g.toNat).p x.sub.toNat).val).cells.length≤m
    rw[hl,sumTo_as (x:=x) (fun i=>by
     show((shadeW (shadeW x ((x.c g.toNat).p x.sub.toNat).key) ((x.c g.toNat).p x.sub.toNat).val).c i).prs.length=_;rw[un_prs uc])]
    exact c
   ·have h':3≤(shadeW (shadeW x ((x.c g.toNat).p x.sub.toNat).key) ((x.c g.toNat).p x.sub.toNat).val).phase:=h;omega
  ·have hc:∀q,(({ x with cells:=x.cells.set g.toNat (blackC (x.c g.toNat)),gray:=G,sub:=0 }:Hp).c q)=if q=g.toNat∧g.toNat<x.cells.length then blackC (x.c g.toNat) else x.c q:=fun q=>cs_set _ _ _ _
   have uc:∀q,(({ x with cells:=x.cells.set g.toNat (blackC (x.c g.toNat)),gray:=G,sub:=0 }:Hp).c q).un=(x.c q).un:=fun q=>by
    rw[hc];split
    ·rename_i h;rw[h.1];rfl
    ·rfl
   have hl:({ x with cells:=x.cells.set g.toNat (blackC (x.c g.toNat)),gray:=G,sub:=0 }:Hp).cells.length=x.cells.length:=by simp
   refine⟨fun _=>⟨Q,a.un (by show x.phase≠3;omega) rfl hl uc,fun q hq h=>?_,?_⟩,fun h=>by have h':3≤x.phase:=h;omega⟩
   ·rw[hl] at hq;rw[hc] at h
    split at h
    ·rename_i h1;rw[h1.1];exact qg
    ·exact b q hq h
   ·rw[hl,sumTo_as (x:=x) (fun i=>by rw[un_prs uc])];exact c
 ·have sh:=(s.look hp).1
  have cl:Cw (lookH x) (fun i=>Q i=true):=Cw.fold hm x.regs x (fun y hy=>by
   obtain⟨i,hi,e⟩:=List.getElem_of_mem hy;rw[←e];exact⟨s.good_reg i hi,a.reg s (by omega) i hi⟩) (Shd.refl s) b
  have hph:=sh.phase
  have sm:sumTo (lookH x) Q (lookH x).cells.length≤m:=by
   rw[sh.len,sumTo_as (x:=x) (fun i=>by rw[un_prs sh.un])];exact c
  split
  ·refine⟨fun h=>?_,fun _=>?_⟩
   ·rcases h with h | h
    ·have h':(3:Int)=1:=h;omega
    ·have h':(3:Int)=2:=h;omega
   ·refine Nat.le_trans ?_ sm;show sumTo (toPh (lookH x) 3 0) (gdB (toPh (lookH x) 3 0)) (lookH x).cells.length≤_;rw[sumTo_as (x:=lookH x) (y:=toPh (lookH x) 3 0) (fun i=>rfl)];refine sumTo_mono (fun i h=>?_) _;have g:=gdB_iff.1 h;exact cl i g.1 fun e=>g.2.2 ⟨rfl,by show(0:Int)≤i;omega,g.2.1,e⟩
  ·exact⟨fun _=>⟨Q,a.un (by omega) sh.regs sh.len sh.un,cl,sm⟩,fun h=>by omega⟩
theorem Jn.unit{x:Hp}{m:Nat}(s:Snd x)(ns:NoSpk x)(h0:x.phase≠0)(j:Jn x m):((unitH x).phase≠0→Jn (unitH x) m)∧((unitH x).phase=0→(unitH x).used≤m):=by
 have r:=s.r1.phase;have g:=gS_unit s;by_cases p1:x.phase=1
 ·have e:unitH x=unit1 x:=by unfold unitH;rw[if_pos p1]
  have q:=j.u1 ns p1;rw[e];exact⟨fun _=>q,fun h=>by have:=(s.o1 p1).2.2;omega⟩
 by_cases p2:x.phase=2
 ·have e:unitH x=unit2 x:=by unfold unitH;rw[if_neg p1,if_pos p2]
  have q:=j.u2 s p2;rw[e];exact⟨fun _=>q,fun h=>by have:=(s.o2 p2).2.2.2;omega⟩
 ·have l:=j.sw (by omega);refine⟨fun h=>⟨fun mk=>?_,fun _=>Nat.le_trans g l⟩,fun h=>?_⟩
  ·rcases s.phase_up h0 with e | e
   ·exact(h e).elim
   ·unfold Marking at mk;omega
  ·rw[s.unit.gS_used (by omega)];exact Int.ofNat_le.2 (Nat.le_trans g l)
theorem NoSpk.unit{x:Hp}(s:Snd x)(ns:NoSpk x):NoSpk (unitH x):=by
 obtain⟨φ,o⟩:=s.ovrU
 exact not_speaks s.unit fun j gj sp=>by
  obtain⟨i,gi,rfl⟩:=o.b j gj;exact ns i (by unfold Speaks at sp ⊢;rw[←(o.g i gi).2.2.1];exact sp)
theorem NoSpk.run{x:Hp}(s:Snd x)(ns:NoSpk x):∀k,NoSpk (itU k x)
 | 0=>ns
 | k+1=>NoSpk.unit (s.itU k) (NoSpk.run s ns k)
theorem Jn.run{x:Hp}{m:Nat}(s:Snd x)(ns:NoSpk x)(h0:x.phase≠0)(j:Jn x m):∀k,Runs x k→((itU k x).phase≠0→Jn (itU k x) m)∧((itU k x).phase=0→(itU k x).used≤m)
 | 0,_=>⟨fun _=>j,fun h=>(h0 h).elim⟩
 | k+1,r=>by
  have ih:=Jn.run s ns h0 j k (fun i hi=>r i (by omega));have n:=r k (by omega);exact Jn.unit (s.itU k) (NoSpk.run s ns k) n (ih.1 n)
theorem Jn.begin{x:Hp}{m:Nat}(s:Snd x)(hp:x.phase=0)(l:∃p:Nat→Bool,(∀i,p i=true↔Reached x i)∧sumTo x p x.cells.length≤m):Jn (toPh x 1 0) m:=by
 obtain⟨p,a,b⟩:=l;refine⟨fun _=>⟨p,?_,fun i hi h=>?_,sum_as (x:=x) rfl (fun _=>rfl) b⟩,fun h=>by have h':(3:Int)≤1:=h;omega⟩
 ·have c:Cp x (fun i=>p i=true):=⟨fun i h=>Reached.good s.r2 s.r4 ((a i).1 h),fun k h e=>(a _).2 (Reached.reg k h e),fun i q h hq e=>(a _).2 (Reached.key i q ((a i).1 h) hq e),fun i q h hq e=>(a _).2 (Reached.val i q ((a i).1 h) hq e)⟩;exact c.un (by show(1:Int)≠3;decide) rfl rfl (fun _=>rfl)
 ·have q:=s.cols (by omega) i hi;have r:=s.r2.1 i hi;exfalso;have h':(x.c i).color≠0:=h;rcases r with r | r | r
  ·have:=r.2.1.2.2.2.2.1;omega
  ·have:=r.2.1.2.2.2.2.1;omega
  ·have:=r.2.2.2.2.2.1;omega
theorem set_out(g:Nat):∀(vs:List Value) (o j:Nat) (w:World),(j<o∨o+vs.length≤j)→(w.setCells g o vs).cell? ⟨g,j,none⟩=w.cell? ⟨g,j,none⟩
 | [],_,_,_,_=>rfl
 | v::r,o,j,w,h=>by
  show((w.setCell ⟨g,o,none⟩ v).setCells g (o+1) r).cell? ⟨g,j,none⟩=_;simp only [List.length_cons] at h;rw[set_out g r (o+1) j _ (by omega)];exact cell_other _ (.inr (by omega))
theorem set_in(g:Nat):∀(vs:List Value) (o k:Nat) (w:World),(∀m,m<vs.length→∃u,w.cell? ⟨g,o+m,none⟩=some u)→k<vs.length→(w.setCells g o vs).cell? ⟨g,o+k,none⟩=vs[k]?
 | [],_,_,_,_,hk=>by simp at hk
 | v::r,o,0,w,hm,_=>by
  show((w.setCell ⟨g,o,none⟩ v).setCells g (o+1) r).cell? ⟨g,o+0,none⟩=_;rw[set_out g r (o+1) (o+0) _ (by omega)];obtain⟨u,hu⟩:=hm 0 (by simp);exact World.cell?_setCell_same _ _ _ hu
 | v::r,o,k+1,w,hm,hk=>by
  show((w.setCell ⟨g,o,none⟩ v).setCells g (o+1) r).cell? ⟨g,o+(k+1),none⟩=_
  have:=set_in g r (o+1) k (w.setCell ⟨g,o,none⟩ v) (fun m hm'=>by
   obtain⟨u,hu⟩:=hm (m+1) (by simp;omega);refine⟨u,?_⟩;rw[cell_other _ (.inr (by omega)),show o+1+m=o+(m+1) by omega];exact hu) (by simpa using hk)
  rw[show o+1+k=o+(k+1) by omega] at this;rw[this];rfl
theorem obj_lt{w:World}{q:Nat}{o:Obj}(h:w.heap[q]?=some o):q<w.heap.size:=by
 rcases Nat.lt_or_ge q w.heap.size with l | l
 ·exact l
 ·rw[Array.getElem?_eq_none l] at h;cases h
theorem GAt.far{z z2:Nat→Option Obj}{B:Nat}{w w':World}{g:Nat}{x:Hp}{ar:Option Addr}{kr:Nat}{ac:Option Addr}{kc:Nat}{vg:Value}{br bc:Nat}{pb:Nat→Nat}{pa:Nat→Option Addr}{pk:Nat→Nat}{role role':Nat→Nat}(h:@GAt ⟨⟨z⟩⟩ B w g x ar kr ac kc vg br bc pb pa pk role)(hs:w.heap.size≤w'.heap.size)(far:∀q,q<w.heap.size→role q≠1→w'.heap[q]?=w.heap[q]?)(hr:∀q,q<w.heap.size→role q≠1→role' q=role q)(hp:∀q o,z2 q=some o→role' q=1∧w'.heap[q]?=some o):@GAt ⟨⟨z2⟩⟩ B w' g x ar kr ac kc vg br bc pb pa pk role':=by
 obtain⟨bx,nf,lo,ha,hc,rs,gr,sp,kl,_,cc⟩:=h;have fg:=far g nf.1 (by rw[sp.g];omega)
 letI:Inhabited ProtD:=⟨⟨z2⟩⟩
 refine⟨bx.block fg,nf1_block nf fg hs,lo,ha,hc,rs.same hs (fun hl=>far br (rs.nr hl).1.1 (by rw[sp.r hl];omega)) (fun hl=>far bc (rs.nc hl).1.1 (by rw[sp.c hl];omega)) (fun q hq hl=>far (pb q) (rs.pl q hq hl).2.1.1 (by rw[sp.p q hq hl];omega)),gr.block (fun q hq=>far q (gr.lt q hq).2 (by rw[sp.y q hq];omega)),⟨?_,fun hl=>?_,fun hl=>?_,fun q hq=>?_,fun q hq hl=>?_⟩,kl,hp,fun hk=>(cc hk).block (hr bc (cc hk).nf.1 (by rw[(cc hk).ro];omega)) (far bc (cc hk).nf.1 (by rw[(cc hk).ro];omega)) hs⟩
 ·rw[hr g nf.1 (by rw[sp.g];omega)];exact sp.g
 ·rw[hr br (rs.nr hl).1.1 (by rw[sp.r hl];omega)];exact sp.r hl
 ·rw[hr bc (rs.nc hl).1.1 (by rw[sp.c hl];omega)];exact sp.c hl
 ·rw[hr q (gr.lt q hq).2 (by rw[sp.y q hq];omega)];exact sp.y q hq
 ·rw[hr (pb q) (rs.pl q hq hl).2.1.1 (by rw[sp.p q hq hl];omega)];exact sp.p q hq hl
theorem GOk.guard{z z2:Nat→Option Obj}{B:Nat}{w0 w:World}{g:Nat}{x:Hp}(h:@GOk ⟨⟨z⟩⟩ B w0 g x)(e:Ext w0 w)(hz:∀q o,z2 q=some o→z q=some o∨(w0.heap.size≤q∧w.heap[q]?=some o)):@GOk ⟨⟨z2⟩⟩ B w g x:=by
 obtain⟨ar,kr,ac,kc,vg,br,bc,pb,pa,pk,role,h⟩:=h;have h0:=h;obtain⟨_,_,_,_,_,_,_,_,_,pr,_⟩:=h0;refine⟨ar,kr,ac,kc,vg,br,bc,pb,pa,pk,fun q=>if w0.heap.size≤q then 1 else role q,GAt.far h e.size (fun q hq _=>e.block q hq) (fun q hq _=>if_neg (by omega)) (fun q o hq=>?_)⟩;rcases hz q o hq with a | ⟨a,b⟩
 ·obtain⟨h1,h2⟩:=pr q o a;have hl:=obj_lt h2;exact⟨by show(if w0.heap.size≤q then 1 else role q)=1;rw[if_neg (by omega)];exact h1,(e.block q hl).trans h2⟩
 ·exact⟨if_pos a,b⟩
theorem GOk.poke{z z2:Nat→Option Obj}{B:Nat}{w w':World}{g:Nat}{x:Hp}(h:@GOk ⟨⟨z⟩⟩ B w g x)(r:Nat)(o:Obj)(hr:z r=some o)(on:Only (fun q=>q=r) w w')(hz:∀q o,z2 q=some o→q≠r∧z q=some o):@GOk ⟨⟨z2⟩⟩ B w' g x:=by
 obtain⟨ar,kr,ac,kc,vg,br,bc,pb,pa,pk,role,h⟩:=h;have h0:=h;obtain⟨_,_,_,_,_,_,_,_,_,pr,_⟩:=h0;obtain⟨hr1,_⟩:=pr r o hr;refine⟨ar,kr,ac,kc,vg,br,bc,pb,pa,pk,role,GAt.far h on.size (fun q hq hn=>on.block q hq (fun e=>hn (by rw[e];exact hr1))) (fun _ _ _=>rfl) (fun q o2 hq=>?_)⟩;obtain⟨a,b⟩:=hz q o2 hq;obtain⟨h1,h2⟩:=pr q o2 b;exact⟨h1,(on.block q (obj_lt h2) a).trans h2⟩
structure Own(p:Inhabited ProtD)(lo hi:Nat)(c:World)(p1:Inhabited ProtD):Prop where
 z:∀q,(@default ProtD p1).z q=if lo≤q∧q<hi then c.heap[q]? else (@default ProtD p).z q
 l:∀q o,(@default ProtD p).z q=some o→q<lo
 h:hi≤c.heap.size
theorem Own.make(p:Inhabited ProtD)(lo hi:Nat)(c:World)(l:∀q o,(@default ProtD p).z q=some o→q<lo)(h:hi≤c.heap.size):∃p1,Own p lo hi c p1:=⟨⟨⟨fun q=>if lo≤q∧q<hi then c.heap[q]? else (@default ProtD p).z q⟩⟩,fun _=>rfl,l,h⟩
theorem obj_some{w:World}{q:Nat}(h:q<w.heap.size):∃o,w.heap[q]?=some o:=⟨_,Array.getElem?_eq_getElem h⟩
theorem GOk.enter{p:Inhabited ProtD}{B:Nat}{w w0:World}{g:Nat}{x:Hp}(h:@GOk p B w g x)(e:Ext w w0):∃p1,Own p w.heap.size w0.heap.size w0 p1∧@GOk p1 B w0 g x:=by
 have h0:=h;obtain⟨ar,kr,ac,kc,vg,br,bc,pb,pa,pk,role,h0⟩:=h0;obtain⟨_,_,_,_,_,_,_,_,_,pr,_⟩:=h0;obtain⟨p1,hp⟩:=Own.make p w.heap.size w0.heap.size w0 (fun q o hq=>obj_lt (pr q o hq).2) (Nat.le_refl _);refine⟨p1,hp,GOk.guard (z:=(@default ProtD p).z) (z2:=(@default ProtD p1).z) h e (fun q o hq=>?_)⟩;rw[hp.z] at hq
 split at hq
 ·rename_i c;exact .inr ⟨c.1,hq⟩
 ·exact .inl hq
theorem GOk.own{p p1:Inhabited ProtD}{lo hi:Nat}{c:World}(o:Own p lo hi c p1){B:Nat}{w:World}{g:Nat}{x:Hp}(h:@GOk p1 B w g x):∀q,lo≤q→q<hi→w.heap[q]?=c.heap[q]?:=fun q h1 h2=>by
 obtain⟨ar,kr,ac,kc,vg,br,bc,pb,pa,pk,role,h⟩:=h;obtain⟨_,_,_,_,_,_,_,_,_,pr,_⟩:=h;obtain⟨ob,hb⟩:=obj_some (w:=c) (q:=q) (by have:=o.h;omega);have:=(pr q ob (by rw[o.z q,if_pos ⟨h1,h2⟩];exact hb)).2;rw[this,hb]
def PRow(w:World)(g:Nat)(M:List Pr):Prop:=∀k (hk:k<M.length),PrAt w g (k*6) M[k]
theorem PrAt.same{w w':World}{g o:Nat}{p:Pr}(h:PrAt w g o p)(e:∀j,j<6→w'.cell? ⟨g,o+j,none⟩=w.cell? ⟨g,o+j,none⟩):PrAt w' g o p:=by
 obtain⟨h0,h1,h2,h3,h4,h5⟩:=h;exact⟨(e 0 (by omega)).trans h0,(e 1 (by omega)).trans h1,(e 2 (by omega)).trans h2,(e 3 (by omega)).trans h3,(e 4 (by omega)).trans h4,(e 5 (by omega)).trans h5⟩
theorem PRow.block{w w':World}{g:Nat}{M:List Pr}(h:PRow w g M)(e:w'.heap[g]?=w.heap[g]?):PRow w' g M:=fun k hk=>(h k hk).same fun _ _=>World.cell?_of_block (a:=⟨g,_,none⟩) e
theorem PrAt.some{w:World}{g o:Nat}{p:Pr}(h:PrAt w g o p)(m:Nat)(hm:m<6):∃u,w.cell? ⟨g,o+m,none⟩=some u:=by
 obtain⟨h0,h1,h2,h3,h4,h5⟩:=h
 match m,hm with
 | 0,_=>exact⟨_,h0⟩
 | 1,_=>exact⟨_,h1⟩
 | 2,_=>exact⟨_,h2⟩
 | 3,_=>exact⟨_,h3⟩
 | 4,_=>exact⟨_,h4⟩
 | 5,_=>exact⟨_,h5⟩
theorem PRow.put{w:World}{g:Nat}{M:List Pr}(h:PRow w g M)(i:Nat)(hi:i<M.length)(y:Pr):PRow (w.setCells g (i*6) [iv y.key.k,iv y.key.n,iv y.key.a,iv y.val.k,iv y.val.n,iv y.val.a]) g (M.set i y):=fun k hk=>by
 have hk':k<M.length:=by simpa using hk
 by_cases e:i=k
 ·subst e;have key:∀m,m<6→(w.setCells g (i*6) [iv y.key.k,iv y.key.n,iv y.key.a,iv y.val.k,iv y.val.n,iv y.val.a]).cell? ⟨g,i*6+m,none⟩=([iv y.key.k,iv y.key.n,iv y.key.a,iv y.val.k,iv y.val.n,iv y.val.a]:List Value)[m]?:=fun m hm=>set_in g _ _ m w (fun m hm=>(h i hi).some m (by simpa using hm)) (by simpa using hm)
  simp only [List.getElem_set_self];exact⟨key 0 (by omega),key 1 (by omega),key 2 (by omega),key 3 (by omega),key 4 (by omega),key 5 (by omega)⟩
 ·rw[List.getElem_set_ne e];exact(h k hk').same fun j hj=>set_out g _ _ _ w (by simp only [List.length_cons,List.length_nil];omega)
theorem PRow.cut{w:World}{g:Nat}{M:List Pr}(h:PRow w g M)(i:Nat)(vs:List Value):PRow (w.setCells g (i*6) vs) g (M.take i):=fun k hk=>by
 have hk2:k<i∧k<M.length:=by simp at hk;omega
 rw[List.getElem_take];exact(h k hk2.2).same fun j hj=>set_out g _ _ _ w (by omega)
def keepL(f:Pr→Bool)(xs:List Pr):List Pr:=xs.filter (fun p=>!f p)
theorem keep_no(f:Pr→Bool)(xs:List Pr)(j:Nat)(hj:j<xs.length)(q:f xs[j]=true):keepL f (xs.take (j+1))=keepL f (xs.take j):=by
 rw[List.take_succ_eq_append_getElem hj,keepL,List.filter_append];simp [q,keepL]
theorem keep_same(f:Pr→Bool)(xs:List Pr)(h:∀j (hj:j<xs.length),f xs[j]=false):keepL f xs=xs:=by
 unfold keepL;refine List.filter_eq_self.2 fun a ha=>?_
 obtain⟨j,hj,e⟩:=List.getElem_of_mem ha;rw[←e,h j hj];rfl
structure DelP(f:Pr→Bool)(xs M:List Pr)(i j:Nat):Prop where
 len:M.length=xs.length
 lt:i<j
 le:j≤xs.length
 tk:M.take i=keepL f (xs.take j)
 dr:M.drop j=xs.drop j
theorem DelP.start{f:Pr→Bool}{xs:List Pr}{i:Nat}(h:i<xs.length)(q:f xs[i]=true)(hn:∀j (hj:j<i),f (xs[j]'(by omega))=false):DelP f xs xs i (i+1):=by
 refine⟨rfl,by omega,by omega,?_,rfl⟩;rw[keep_no f xs i h q,keep_same f (xs.take i) (fun j hj=>by simp at hj;rw[List.getElem_take];exact hn j (by omega))]
theorem DelP.at{f:Pr→Bool}{xs M:List Pr}{i j:Nat}(h:DelP f xs M i j)(hj:j<xs.length):∃hm:j<M.length,M[j]=xs[j]:=by
 have hm:j<M.length:=by rw[h.len];exact hj
 refine⟨hm,?_⟩;have e:=congrArg (fun l=>l[0]?) h.dr;simp only [List.getElem?_drop,Nat.add_zero] at e;rw[List.getElem?_eq_getElem hm,List.getElem?_eq_getElem hj] at e
 injection e
theorem DelP.no{f:Pr→Bool}{xs M:List Pr}{i j:Nat}(h:DelP f xs M i j)(hj:j<xs.length)(q:f xs[j]=true):DelP f xs M i (j+1):=by
 refine⟨h.len,by have:=h.lt;omega,by omega,by rw[keep_no f xs j hj q];exact h.tk,?_⟩;have:=congrArg (List.drop 1) h.dr
 simpa [List.drop_drop] using this
end Go.Proofs.YtddkhnclmeikfaaGreat
namespace Go.Proofs.YtddkhnclmeikfaaGreat
open Go.RowKit Go.Shelf
attribute [local go_sem ↓] Go.wp_at_zero Go.wp_at_succ
attribute [local go_sem] Oper.semAt_some
def CKeep(W W':World):Prop:=∀(q:Nat) (o:Obj),W.heap[q]?=some o→o.isCells=true→W'.heap[q]?=some o
theorem CKeep.trans{A B C:World}(h:CKeep A B)(k:CKeep B C):CKeep A C:=fun q o a b=>k q o (h q o a b) b
theorem CKeep.refl(A:World):CKeep A A:=fun _ _ a _=>a
theorem CKeep.cell{W W':World}(h:CKeep W W'){p:Addr}{v:Value}(hc:W.cell? p=some v):W'.cell? p=some v:=by
 obtain⟨o,ho,hi⟩:=cells_of_cell hc;rw[World.cell?_of_block ((h _ _ ho hi).trans ho.symm)];exact hc
theorem CKeep.put(W:World)(l:Nat)(o o':Obj)(hl:W.heap[l]?=some o)(hc:o.isCells=false):CKeep W (W.putObj l o'):=fun q p hq hp=>by
 have:q≠l:=fun e=>by subst e;rw[hl] at hq;cases hq;rw[hc] at hp;cases hp
 rw[World.putObj_heap_other this];exact hq
def SpL(x:Hp)(w:World)(g:Option Addr)(bn on:Nat)(L:List Nat):Prop:=∀k (h:k<L.length),∃gb go bc oc,g=some ⟨gb,go,none⟩∧w.cell? ⟨gb,go+k,none⟩=some (ptr bn (on+L[k]*2))∧w.cell? ⟨bn,on+L[k]*2+1,none⟩=some (.pointer (some ⟨bc,oc,none⟩))∧w.cell? ⟨bc,oc+3,none⟩=some (iv (x.c L[k]).last)
theorem SpL.keep{x:Hp}{w w':World}{g:Option Addr}{bn on:Nat}{L:List Nat}(h:SpL x w g bn on L)(k:CKeep w w'):SpL x w' g bn on L:=fun i hi=>by
 obtain⟨gb,go,bc,oc,e,a,b,c⟩:=h i hi;exact⟨gb,go,bc,oc,e,k.cell a,k.cell b,k.cell c⟩
end Go.Proofs.YtddkhnclmeikfaaGreat
namespace Go.Proofs.YtddkhnclmeikfaaGreat
open Go.RowKit
attribute [local go_sem ↓] Go.wp_at_zero Go.wp_at_succ
attribute [local go_sem] Oper.semAt_some
structure Edit(x:Hp)(i:Nat)(c:Cl):Prop where
 hi:i<x.cells.length
 st:(x.c i).st=1
 nd:¬Doomed x i
 e:c.st=(x.c i).st∧c.kind=(x.c i).kind∧c.weak=(x.c i).weak∧c.born=(x.c i).born∧c.color=(x.c i).color∧c.to=(x.c i).to
 la:0≤c.last∧c.last≤3
 ln:c.prs.length=(x.c i).prs.length
 ld:∀k,k<c.prs.length→Leads x (c.p k).key (¬Mended x i k)∧Leads x (c.p k).val (¬Mended x i k)
 lk:Marking x→∀k,k<looked x i→¬White x (c.p k).key∧¬White x (c.p k).val
 sp:Speaks c→Marking x→c.color=0→¬(x.phase=2∨(i:Int)<x.hand)
theorem setcH_c(x:Hp)(i:Nat)(c:Cl)(hi:i<x.cells.length)(q:Nat):(setcH x i c).c q=if q=i then c else x.c q:=Hp.c_set x i c hi q
theorem setcH_len(x:Hp)(i:Nat)(c:Cl):(setcH x i c).cells.length=x.cells.length:=by simp [setcH]
theorem Snd.edit{x:Hp}{i:Nat}{c:Cl}(h:Snd x)(t:Edit x i c):Snd (setcH x i c):=by
 obtain⟨e1,e2,e3,e4,e5,e6⟩:=t.e;have zc:=setcH_c x i c t.hi;have zl:=setcH_len x i c
 have sm:∀q,((setcH x i c).c q).st=(x.c q).st∧((setcH x i c).c q).born=(x.c q).born∧((setcH x i c).c q).color=(x.c q).color∧((setcH x i c).c q).to=(x.c q).to∧((setcH x i c).c q).prs.length=(x.c q).prs.length:=fun q=>by
  rw[zc q];by_cases e:q=i
  ·rw[if_pos e,e];exact⟨e1,e4,e5,e6,t.ln⟩
  ·rw[if_neg e];exact⟨rfl,rfl,rfl,rfl,rfl⟩
 have dm:∀q,Doomed (setcH x i c) q↔Doomed x q:=fun q=>by unfold Doomed;rw[(sm q).1,(sm q).2.2.1];exact Iff.rfl
 have ld:∀(y:Wd) (m:Prop),Leads x y m→Leads (setcH x i c) y m:=fun y m l=>⟨by rw[zl];exact l.1,fun hk=>by rw[(sm _).1,dm];exact l.2 hk⟩
 have wh:∀y:Wd,White (setcH x i c) y→White x y:=fun y hy=>⟨hy.1,by rw[←(sm _).2.2.1];exact hy.2⟩
 refine⟨?_,⟨fun q hq=>?_,fun q hq h0 k hk=>?_⟩,⟨?_,h.r3.2⟩,⟨fun j hj=>ld _ _ (h.r4.1 j hj),fun q hq=>?_⟩,⟨h.r5.1,fun q hq=>?_,fun g hg=>?_⟩,⟨h.r6.1,fun hp=>?_,fun hp=>?_,h.r6.2.2.2⟩,fun hm q hq=>?_,fun q hq=>?_⟩
 ·exact⟨h.r1.room,h.r1.regs,by rw[zl];exact h.r1.cells,by rw[zl];exact h.r1.gray,h.r1.born,h.r1.rounds,h.r1.forced,h.r1.per,h.r1.start,h.r1.phase,by rw[zl];exact h.r1.hand,h.r1.sub⟩
 ·rw[zl] at hq;have ok:=h.r2.1 q hq;by_cases e:q=i
  ·subst e;refine .inr (.inr ⟨by rw[(sm q).1];exact t.st,?_⟩);rw[zc q,if_pos rfl];have la:=t.la;have ln:=t.ln;have s1:=t.st;rcases ok with o | o | ⟨_,o⟩
   ·omega
   ·omega
   ·unfold UsedOk at o ⊢;have:(setcH x q c).born=x.born:=rfl;omega
  ·unfold CellOk;rw[zc q,if_neg e];rcases ok with o | ⟨o,m⟩ | o
   ·exact .inl o
   ·refine .inr (.inl ⟨o,m.1,m.2.1,m.2.2.1,m.2.2.2.1,by rw[(sm _).1];exact m.2.2.2.2.1,fun hp k hk=>by rw[(sm k).1];exact m.2.2.2.2.2 hp k hk⟩)
   ·exact .inr (.inr o)
 ·rw[zl] at hq;rw[(sm q).1] at h0;rw[(sm k).1,(sm k).2.1,(sm k).2.2.2.1,(sm q).1,(sm q).2.1,(sm q).2.2.2.1];exact h.r2.2 q hq h0 k hk
 ·have u:units (setcH x i c).cells=units x.cells:=units_set x.cells i c t.hi (by rw[Hp.c_eq x i t.hi];unfold unitsOf;rw[e1,t.ln]);rw[u];exact h.r3.1
 ·rw[zl] at hq;rw[zc q];by_cases e:q=i
  ·subst e;rw[if_pos rfl];refine⟨fun d=>t.nd ((dm q).1 d.1),fun k hk=>⟨fun d=>absurd ((dm q).1 d) t.nd,fun _=>?_⟩⟩;have:=t.ld k hk;exact⟨ld _ _ this.1,ld _ _ this.2⟩
  ·rw[if_neg e];have o:=h.r4.2 q hq;refine⟨fun d=>o.1 ⟨(dm q).1 d.1,d.2⟩,fun k hk=>?_⟩;have p:=o.2 k hk;refine⟨fun d=>by rw[zl];exact p.1 ((dm q).1 d),fun d=>?_⟩;have:=p.2 (fun d2=>d ((dm q).2 d2));exact⟨ld _ _ this.1,ld _ _ this.2⟩
 ·rw[zl] at hq;have o:=h.r5.2.1 q hq;unfold ColorOk at o ⊢;rw[(sm q).2.2.1];exact o
 ·rw[zl];exact h.r5.2.2 g hg
 ·have r:=h.r6.2.1 hp;refine⟨r.1,r.2.1,fun hg=>?_⟩;rw[(sm _).2.2.2.2];exact r.2.2 hg
 ·have r:=h.r6.2.2.1 hp;rw[zl,(sm _).1,(sm _).2.2.2.2];exact r
 ·rw[zl] at hq;have o:=h.r7 hm q hq
  have lk:looked (setcH x i c) q=looked x q:=by
   unfold looked;rw[(sm q).2.2.1,(sm q).2.2.2.2];rfl
  rw[lk,zc q];by_cases e:q=i
  ·subst e;rw[if_pos rfl];refine⟨fun hb=>t.sp hb.1 hm hb.2.1 hb.2.2,fun k hk=>?_⟩;have:=t.lk hm k hk;exact⟨fun w=>this.1 (wh _ w),fun w=>this.2 (wh _ w)⟩
  ·rw[if_neg e];exact⟨o.1,fun k hk=>⟨fun w=>(o.2 k hk).1 (wh _ w),fun w=>(o.2 k hk).2 (wh _ w)⟩⟩
 ·rw[zl] at hq;rw[(sm q).1];exact h.r8 q hq
theorem shade_setc(x:Hp)(i t:Nat)(c:Cl)(hi:i<x.cells.length)(hs:c.st=(x.c i).st)(hc:c.color=(x.c i).color):shadeH (setcH x i c) t=setcH (shadeH x t) i (if shadeB x t=true∧t=i then grayC c else c):=by
 have zc:=setcH_c x i c hi t
 have eb:shadeB (setcH x i c) t=shadeB x t:=by
  unfold shadeB whB;rw[zc];by_cases e:t=i
  ·rw[if_pos e,e,hs,hc];rfl
  ·rw[if_neg e];rfl
 unfold shadeH;rw[eb];by_cases q:shadeB x t=true
 ·rw[if_pos q,if_pos q,zc];by_cases e:t=i
  ·rw[if_pos e,if_pos ⟨q,e⟩,e];simp [setcH]
  ·rw[if_neg e,if_neg (fun h=>e h.2)];simp only [setcH];rw[List.set_comm _ _ (fun h=>e h.symm)]
 ·rw[if_neg q,if_neg q,if_neg (fun h=>q h.1)]
theorem shade_still{x:Hp}(hm:¬Marking x)(t:Nat):shadeH x t=x:=by
 unfold shadeH;rw[if_neg];intro h;exact hm (shadeB_parts h).1
theorem Leads.shade{x:Hp}{y:Wd}{m:Prop}(h:Leads x y m)(t:Nat)(ht:t<x.cells.length):Leads (shadeH x t) y m:=by
 by_cases hm:Marking x
 ·refine⟨by rw[(shade_same x t).2.2.2.2.1];exact h.1,fun hk=>?_⟩;rw[(un_parts (shade_un x t ht _)).1];rcases h.2 hk with o | o
  ·exact .inl o
  ·refine .inr ⟨o.1,fun d=>?_⟩;have:=d.1;rw[(shade_same x t).2.2.2.2.2.1] at this;unfold Marking at hm;omega
 ·rw[shade_still hm];exact h
theorem Snd.put{x:Hp}(h:Snd x)(i k:Nat)(hi:i<x.cells.length)(s1:(x.c i).st=1)(nd:¬Doomed x i)(hk:k<(x.c i).prs.length)(y:Wd)(hy:Leads x y False)(p:Pr)(hp:(p.key=y∧p.val=((x.c i).p k).val)∨(p.val=y∧p.key=((x.c i).p k).key)):Snd (shadeW (setcH x i { x.c i with prs:=(x.c i).prs.set k p }) y):=by
 have pk:∀j,j<(x.c i).prs.length→({ x.c i with prs:=(x.c i).prs.set k p }:Cl).p j=if j=k then p else (x.c i).p j:=fun j hj=>by
  unfold Cl.p;simp only [List.getD_eq_getElem?_getD,List.getElem?_set];by_cases e:k=j
  ·rw[if_pos e,if_pos e.symm,if_pos (by omega)];rfl
  ·rw[if_neg e,if_neg (fun h=>e h.symm)]
 have key:∀(z:Hp) (c:Cl),Snd z→z.cells.length=x.cells.length→(∀q,(z.c q).st=(x.c q).st)→(z.c i).prs=(x.c i).prs→z.phase=x.phase→z.hand=x.hand→z.sub=x.sub→¬Doomed z i→(∀(u:Wd) (m:Prop),Leads x u m→Leads z u m)→(Marking z→¬White z y)→c={ z.c i with prs:=(x.c i).prs.set k p }→Snd (setcH z i c):=fun z c sz zl zs zp e4 e5 e7 ndz ldz wz ec=>by
  have me:∀j,Mended z i j↔Mended x i j:=fun j=>by unfold Mended;rw[e4,e5,e7]
  have cp:∀j,c.p j=({ x.c i with prs:=(x.c i).prs.set k p }:Cl).p j:=fun j=>by rw[ec];rfl
  have la:0≤(z.c i).last∧(z.c i).last≤3:=by
   have ok:=sz.r2.1 i (by rw[zl];exact hi);have:=zs i;unfold CellOk UsedOk Bare MovedOk Bare at ok;omega
  refine sz.edit ⟨by rw[zl];exact hi,by rw[zs];exact s1,ndz,by rw[ec];exact⟨rfl,rfl,rfl,rfl,rfl,rfl⟩,by rw[ec];exact la,by rw[ec,zp];simp,fun j hj=>?_,fun hm j hj=>?_,fun hsp hm hc=>?_⟩
  ·have hj2:j<(x.c i).prs.length:=by rw[ec] at hj;simpa using hj
   have o:=((h.r4.2 i hi).2 j hj2).2 nd;have em:(¬Mended z i j)=(¬Mended x i j):=propext (not_congr (me j));rw[em,cp j,pk j hj2];have hyl:∀m,Leads x y m:=fun m=>⟨hy.1,fun e=>by rcases hy.2 e with o | o;exact o.2.elim;exact .inr o⟩
   by_cases e:j=k
   ·rw[if_pos e];rw[e] at o;rcases hp with⟨a,b⟩ | ⟨a,b⟩
    ·rw[a,b,e];exact⟨ldz _ _ (hyl _),ldz _ _ o.2⟩
    ·rw[a,b,e];exact⟨ldz _ _ o.1,ldz _ _ (hyl _)⟩
   ·rw[if_neg e];exact⟨ldz _ _ o.1,ldz _ _ o.2⟩
  ·have o:=(sz.r7 hm i (by rw[zl];exact hi)).2 j hj
   have hj2:j<(x.c i).prs.length:=by
    unfold looked at hj;rw[zp] at hj
    split at hj
    ·exact hj
    ·split at hj
     ·rename_i hd;have r:=(sz.r6.2.1 hd.1).2.2 hd.2.1;have eg:z.g0=i:=by unfold Hp.g0;rw[hd.2.2];simp
      rw[eg,zp] at r;omega
     ·omega
   have zpj:(z.c i).p j=(x.c i).p j:=by simp only [Cl.p,zp]
   rw[zpj] at o;rw[cp j,pk j hj2];by_cases e:j=k
   ·rw[if_pos e];rw[e] at o;rcases hp with⟨a,b⟩ | ⟨a,b⟩
    ·rw[a,b];exact⟨wz hm,o.2⟩
    ·rw[a,b];exact⟨o.1,wz hm⟩
   ·rw[if_neg e];exact o
  ·rw[ec] at hsp hc;exact fun hd=>(sz.r7 hm i (by rw[zl];exact hi)).1 ⟨hsp,hc,hd⟩
 unfold shadeW;by_cases e:(y.k == 2)=true
 ·rw[if_pos e];have e2:y.k=2:=by simpa using e
  have ft:y.a.toNat<x.cells.length:=by have:=hy.1;unfold Formed at this;omega
  have st:(x.c y.a.toNat).st=1:=by
   rcases hy.2 e2 with o | o
   ·exact o.2.elim
   ·exact o.1
  rw[shade_setc x i y.a.toNat { x.c i with prs:=(x.c i).prs.set k p } hi rfl rfl];have un:=shade_un x y.a.toNat ft;refine key (shadeH x y.a.toNat) _ (h.shade _ ft) (shade_same x _).2.2.2.2.1 (fun q=>(un_parts (un q)).1) (un_parts (un i)).2.2.2.2.2.2 (shade_same x _).2.2.2.2.2.1 (shade_same x _).2.2.2.2.2.2.1 (shade_same x _).2.2.2.2.2.2.2.1 (fun d=>?_) (fun u m l=>l.shade _ ft) (fun hm w=>?_) ?_
  ·by_cases hm:Marking x
   ·have:=d.1;rw[(shade_same x _).2.2.2.2.2.1] at this;unfold Marking at hm;omega
   ·rw[shade_still hm] at d;exact nd d
  ·have hm2:Marking x:=by unfold Marking at hm ⊢;rw[(shade_same x _).2.2.2.2.2.1] at hm;exact hm
   exact not_white_shade x _ ft hm2 st w.2
  ·rw[shade_c x _ ft i];by_cases q:shadeB x y.a.toNat=true∧y.a.toNat=i
   ·rw[if_pos q,if_pos ⟨q.1,q.2.symm⟩,q.2];rfl
   ·rw[if_neg q,if_neg (fun h=>q ⟨h.1,h.2.symm⟩)]
 ·rw[if_neg e];have e2:y.k≠2:=by simpa using e
  exact key x _ h rfl (fun _=>rfl) rfl rfl rfl rfl nd (fun _ _ l=>l) (fun _ w=>e2 w.1) rfl
theorem Snd.want{x:Hp}(h:Snd x)(i:Nat)(hi:i<x.cells.length)(s1:(x.c i).st=1)(nd:¬Doomed x i):Snd (shadeH (setcH x i (lastC (x.c i) 1)) i):=by
 rw[shade_setc x i i (lastC (x.c i) 1) hi rfl rfl];have un:=shade_un x i hi i;have hc:=shade_c x i hi i;have sz:=h.shade i hi;have zl:=(shade_same x i).2.2.2.2.1
 have ec:(if shadeB x i=true∧i=i then grayC (lastC (x.c i) 1) else lastC (x.c i) 1)=lastC ((shadeH x i).c i) 1:=by
  rw[hc];by_cases q:shadeB x i=true
  ·rw[if_pos ⟨q,rfl⟩,if_pos ⟨q,rfl⟩];rfl
  ·rw[if_neg (fun h=>q h.1),if_neg (fun h=>q h.1)]
 rw[ec];have s2:((shadeH x i).c i).st=1:=by rw[(un_parts un).1];exact s1
 have nd2:¬Doomed (shadeH x i) i:=fun d=>by
  by_cases hm:Marking x
  ·have:=d.1;rw[(shade_same x _).2.2.2.2.2.1] at this;unfold Marking at hm;omega
  ·rw[shade_still hm] at d;exact nd d
 refine sz.edit ⟨by rw[zl];exact hi,s2,nd2,⟨rfl,rfl,rfl,rfl,rfl,rfl⟩,⟨by simp [lastC],by simp [lastC]⟩,rfl,fun k hk=>((sz.r4.2 i (by rw[zl];exact hi)).2 k hk).2 nd2,fun hm k hk=>(sz.r7 hm i (by rw[zl];exact hi)).2 k hk,fun _ hm hcol=>?_⟩;have hm2:Marking x:=by unfold Marking at hm ⊢;rw[(shade_same x _).2.2.2.2.2.1] at hm;exact hm
 exact absurd hcol (not_white_shade x i hi hm2 s1)
abbrev z6:Array Value:=#[iv 0,iv 0,iv 0,iv 0,iv 0,iv 0]
theorem made6(m j:Nat)(hj:j<m):(madeCells z6 m)[j]?=some (iv 0):=by
 have h6:j % 6<6:=Nat.mod_lt _ (by omega)
 have:([iv 0,iv 0,iv 0,iv 0,iv 0,iv 0]:List Value)[j % 6]?.getD default=iv 0:=by
  have:j % 6=0∨j % 6=1∨j % 6=2∨j % 6=3∨j % 6=4∨j % 6=5:=by omega
  rcases this with e | e | e | e | e | e <;> rw[e] <;> rfl
 simp [madeCells,hj];exact this
theorem mkPairsZ(n:Nat)(hn:n≤1048576)(w:World):(Instr.makeSlice 60 (.int .i64 n) (.int .i64 n)).run Tryz.prog w=.ok (.slice (some ⟨w.heap.size,0,none⟩) n n) (w.alloc (.cells (madeCells z6 (n*6)) 154)):=by
 obtain⟨i0,hi,hz0,hz1,hz2⟩:=info_parts infoPairs;have h:=run_make (P:=Tryz.prog) w 60 154 i0 _ Tryz.underlying60 hi hz0 .i64 .i64 n n (by omega) (Int.le_refl _) (by rw[hz2];omega) (by omega);rw[hz1] at h;simp only [Int.toNat_natCast] at h;exact h
structure NewP(w0 W:World)(qb n:Nat):Prop where
 lt:w0.heap.size≤qb
 nf:Nfp qb n W
 z:∀k,k<n→PrAt W qb (k*6) Pr0
theorem NewP.ext{w0 W W':World}{qb n:Nat}(h:NewP w0 W qb n)(e:Ext W W'):NewP w0 W' qb n:=⟨h.lt,h.nf.ext e,fun k hk=>(h.z k hk).ext e⟩
theorem NewP.made(w0 w:World)(n:Nat)(t:TypeId)(e:Ext w0 w):NewP w0 (w.alloc (.cells (madeCells z6 (n*6)) t)) w.heap.size n:=by
 have hn:(w.alloc (.cells (madeCells z6 (n*6)) t)).heap[w.heap.size]?=some (.cells (madeCells z6 (n*6)) t):=heap_alloc_new w _;have cz:∀j,j<n*6→(w.alloc (.cells (madeCells z6 (n*6)) t)).cell? ⟨w.heap.size,j,none⟩=some (iv 0):=fun j hj=>by rw[cell_of_row _ w.heap.size j _ _ (0,0) hn];exact made6 _ j hj
 exact⟨e.size,⟨by simp,fun _=>by simp [go_sem],fun j hj=>⟨_,cz j hj⟩⟩,fun k hk=>⟨cz _ (by omega),cz _ (by omega),cz _ (by omega),cz _ (by omega),cz _ (by omega),cz _ (by omega)⟩⟩
theorem NewP.only{w0 W W':World}{qb n:Nat}{S:Nat→Prop}(h:NewP w0 W qb n)(o:Only S W W')(hS:¬S qb):NewP w0 W' qb n:=
 ⟨h.lt,nfp_block h.nf (o.block qb h.nf.1 hS) o.size,fun k hk=>(h.z k hk).of fun _ _=>World.cell?_of_block (a:=⟨qb,_,none⟩) (o.block qb h.nf.1 hS)⟩
structure Thin(x z:Hp):Prop where
 hl:z.cells.length=x.cells.length
 rest:RestH z x
 c:∀q,(z.c q).st=(x.c q).st∧(z.c q).kind=(x.c q).kind∧(z.c q).born=(x.c q).born∧(z.c q).color=(x.c q).color∧(z.c q).to=(x.c q).to
 wk:∀q,(z.c q).weak=(x.c q).weak∨((x.c q).st=1∧0≤(z.c q).weak∧(z.c q).weak≤3)
 la:∀q,(z.c q).last=(x.c q).last∨((x.c q).st=1∧0≤(z.c q).last∧(z.c q).last≤3)
 sp:∀q,Speaks (z.c q)→Speaks (x.c q)
 p:∀q,q<x.cells.length→∀k,k<(z.c q).prs.length→∃j,j<(x.c q).prs.length∧(z.c q).p k=(x.c q).p j∧(scanI x=(q:Int)→((k:Int)<z.sub↔(j:Int)<x.sub))
 le:∀q,q<x.cells.length→(z.c q).prs.length≤(x.c q).prs.length
 us:z.used=(units z.cells:Nat)
 ul:z.used≤x.used
 s0:0≤z.sub∧z.sub≤x.sub
 s1:∀q,q<x.cells.length→scanI x=(q:Int)→z.sub≤(z.c q).prs.length
theorem scan_hand{x:Hp}(hp:x.phase=5)(h:x.hand<x.cells.length):scanI x=x.hand:=by
 unfold scanI;rw[if_neg (by omega),if_pos ⟨hp,h⟩]
theorem scan_gray{x:Hp}(hp:x.phase=2)(h:0<x.gray.length):scanI x=x.gray.getD 0 0:=by
 unfold scanI;rw[if_pos ⟨hp,h⟩]
theorem Snd.thin{x z:Hp}(h:Snd x)(t:Thin x z):Snd z:=by
 obtain⟨e1,e2,e3,e4,e5,e6,e7,e8,e9,e10⟩:=t.rest;have dm:∀q,Doomed z q↔Doomed x q:=fun q=>by unfold Doomed;rw[e4,e5,(t.c q).1,(t.c q).2.2.2.1]
 have ld:∀(y:Wd) (m m':Prop),(m→m')→Leads x y m→Leads z y m':=fun y m m' hm l=>⟨by rw[t.hl];exact l.1,fun hk=>by
  rw[(t.c _).1,dm];rcases l.2 hk with o | o
  ·exact .inl ⟨o.1,hm o.2⟩
  ·exact .inr o⟩
 have wh:∀y:Wd,White z y→White x y:=fun y hy=>⟨hy.1,by rw[←(t.c _).2.2.2.1];exact hy.2⟩
 have mk:Marking z↔Marking x:=by unfold Marking;rw[e4]
 have s0:=t.s0
 have g0r:x.gray.length≠0→0≤x.gray.getD 0 0∧x.gray.getD 0 0<x.cells.length:=fun hg=>by
  refine h.r5.2.2 _ ?_;cases hgr:x.gray with
  | nil=>rw[hgr] at hg;simp at hg
  | cons g G=>simp
 refine⟨?_,⟨fun q hq=>?_,fun q hq h0 k hk=>?_⟩,⟨t.us,?_⟩,⟨fun i hi=>?_,fun q hq=>⟨fun d=>?_,fun k hk=>?_⟩⟩,⟨fun hm=>?_,fun q hq=>?_,fun g hg=>?_⟩,⟨fun hp=>?_,fun hp=>?_,fun hp=>?_,fun hp=>?_⟩,fun hm q hq=>⟨fun hb=>?_,fun k hk=>?_⟩,fun q hq=>?_⟩
 ·have r:=h.r1;exact⟨by rw[e1];exact r.room,by rw[e3];exact r.regs,by rw[t.hl,e1];exact r.cells,by rw[e6,t.hl];exact r.gray,by rw[e2];exact r.born,by rw[e9];exact r.rounds,by rw[e10];exact r.forced,by rw[e7];exact r.per,by rw[e8];exact r.start,by rw[e4];exact r.phase,by rw[e5,t.hl];exact r.hand,by have:=r.sub;omega⟩
 ·rw[t.hl] at hq;have ok:=h.r2.1 q hq;obtain⟨c1,c2,c3,c4,c5⟩:=t.c q;have l:=t.le q hq;have wk:=t.wk q;have la:=t.la q;unfold CellOk;rcases ok with⟨o,b,d⟩ | ⟨o,m⟩ | ⟨o,m⟩
  ·refine .inl ⟨by rw[c1];exact o,?_,by rw[c5];exact d⟩;unfold Bare at b ⊢;omega
  ·refine .inr (.inl ⟨by rw[c1];exact o,?_,by rw[e4];exact m.2.1,by rw[c5];exact m.2.2.1,by rw[c5];exact m.2.2.2.1,by rw[c5,(t.c _).1];exact m.2.2.2.2.1,fun hp k hk=>?_⟩)
   ·have b:=m.1;unfold Bare at b ⊢;omega
   ·rw[(t.c k).1];rw[e4] at hp;rw[c5] at hk;exact m.2.2.2.2.2 hp k hk
  ·refine .inr (.inr ⟨by rw[c1];exact o,?_⟩);unfold UsedOk at m ⊢;rw[e2];omega
 ·rw[t.hl] at hq;rw[(t.c q).1] at h0;rw[(t.c k).1,(t.c k).2.2.1,(t.c k).2.2.2.2,(t.c q).1,(t.c q).2.2.1,(t.c q).2.2.2.2];exact h.r2.2 q hq h0 k hk
 ·rw[e1];have:=h.r3.2;have:=t.ul;omega
 ·have e:z.regs[i]=x.regs[i]'(by rw[←e3];exact hi):=by simp only [e3]
  rw[e];exact ld _ _ _ id (h.r4.1 i (by rw[←e3];exact hi))
 ·rw[t.hl] at hq;exact(h.r4.2 q hq).1 ⟨(dm q).1 d.1,t.sp q d.2⟩
 ·rw[t.hl] at hq;obtain⟨j,hj,ej,hs⟩:=t.p q hq k hk;have ok:=(h.r4.2 q hq).2 j hj;rw[ej]
  have me:Mended z q k→Mended x q j:=fun m=>⟨by rw[←e4];exact m.1,fun hp=>by
   have:=m.2 (by rw[e4];exact hp);rw[e5] at this;rcases this with a | ⟨a,b⟩
   ·exact .inl a
   ·exact .inr ⟨a,(hs (by rw[scan_hand hp (by omega)];exact a.symm)).1 b⟩⟩
  refine⟨fun d=>?_,fun d=>?_⟩
  ·rw[t.hl];exact ok.1 ((dm q).1 d)
  ·have:=ok.2 (fun d2=>d ((dm q).2 d2));exact⟨ld _ _ _ (fun a b=>a (me b)) this.1,ld _ _ _ (fun a b=>a (me b)) this.2⟩
 ·rw[e6];exact h.r5.1 (fun m=>hm (mk.2 m))
 ·rw[t.hl] at hq;have o:=h.r5.2.1 q hq;unfold ColorOk at o ⊢;rw[(t.c q).2.2.2.1,e6,mk,e4,e5];exact o
 ·rw[e6] at hg;rw[t.hl];exact h.r5.2.2 g hg
 ·rw[e4] at hp;have:=h.r6.1 hp;rw[e5];omega
 ·rw[e4] at hp;have r:=h.r6.2.1 hp;rw[e5,e6];refine⟨r.1,fun hg=>by have:=r.2.1 hg;omega,fun hg=>?_⟩;have gr:=g0r hg;have e:z.g0=x.g0:=by unfold Hp.g0;rw[e6]
  rw[e];refine t.s1 x.g0 (by unfold Hp.g0;omega) ?_;rw[scan_gray hp (by omega)];unfold Hp.g0;omega
 ·rw[e4] at hp;have r:=h.r6.2.2.1 hp;have hh:=h.r1.hand;rw[e5,t.hl];refine⟨fun hq=>?_,fun hq=>?_⟩
  ·rw[(t.c _).1] at hq;have:=r.1 hq;omega
  ·refine t.s1 _ (by omega) ?_;rw[scan_hand hp (by omega)];omega
 ·rw[e4] at hp;have:=h.r6.2.2.2 hp;omega
 ·rw[t.hl] at hq;refine(h.r7 (mk.1 hm) q hq).1 ⟨t.sp q hb.1,by rw[←(t.c q).2.2.2.1];exact hb.2.1,?_⟩;have:=hb.2.2;rw[e4,e5] at this;exact this
 ·rw[t.hl] at hq;have o:=(h.r7 (mk.1 hm) q hq).2
  have key:k<(z.c q).prs.length∧∀j:Nat,(scanI x=(q:Int)→((k:Int)<z.sub↔(j:Int)<x.sub))→j<(x.c q).prs.length→j<looked x q:=by
   unfold looked at hk;rw[(t.c q).2.2.2.1,e4,e6] at hk
   split at hk
   ·rename_i hc;refine⟨hk,fun j _ hj=>?_⟩;unfold looked;rw[if_pos hc];exact hj
   ·rename_i hc
    split at hk
    ·rename_i hd;have sc:scanI x=(q:Int):=by rw[scan_gray hd.1 (by omega)];exact hd.2.2
     have:=t.s1 q hq sc;refine⟨by omega,fun j hs _=>?_⟩;unfold looked;rw[if_neg hc,if_pos hd];have:=(hs sc).1 (by omega);omega
    ·omega
  obtain⟨j,hj,ej,hs⟩:=t.p q hq k key.1;rw[ej];have:=o j (key.2 j hs hj);exact⟨fun w=>this.1 (wh _ w),fun w=>this.2 (wh _ w)⟩
 ·rw[t.hl] at hq;rw[e4,e5,(t.c q).1];exact h.r8 q hq
theorem Snd.scan{x:Hp}(h:Snd x)(q:Nat)(hs:scanI x=(q:Int)):x.sub≤(x.c q).prs.length:=by
 have h8:=h.r6;unfold scanI at hs
 split at hs
 ·rename_i e;have e8:=(h8.2.1 e.1).2.2 (by omega);have:x.g0=q:=by unfold Hp.g0;rw[hs];rfl
  rw[this] at e8;exact e8
 ·split at hs
  ·rename_i e;have a:=h8.2.2.1 e.1;have hq:x.hand.toNat=q:=by omega
   by_cases hc:(x.c x.hand.toNat).st=1
   ·have:=a.2 ⟨by omega,hc⟩;rw[hq] at this;exact this
   ·have:=a.1 (.inr hc);omega
  ·omega
theorem Thin.self{x:Hp}(h:Snd x)(i:Nat)(c:Cl)(hi:i<x.cells.length)(s1:(x.c i).st=1)(e:c.st=(x.c i).st∧c.kind=(x.c i).kind∧c.born=(x.c i).born∧c.color=(x.c i).color∧c.to=(x.c i).to)(hp:c.prs=(x.c i).prs)(wk:c.weak=(x.c i).weak∨(0≤c.weak∧c.weak≤3))(la:c.last=(x.c i).last∨(0≤c.last∧c.last≤3))(sp:Speaks c→Speaks (x.c i)):Thin x (setcH x i c) where
 hl:=setcH_len x i c
 rest:=RestH.refl _
 c:=fun q=>by rw[setcH_c x i c hi q];split;(· rename_i t;rw[t];exact e);(· exact⟨rfl,rfl,rfl,rfl,rfl⟩)
 wk:=fun q=>by rw[setcH_c x i c hi q];split;(· rename_i t;rw[t];exact wk.imp id (fun u=>⟨s1,u⟩));(· exact .inl rfl)
 la:=fun q=>by rw[setcH_c x i c hi q];split;(· rename_i t;rw[t];exact la.imp id (fun u=>⟨s1,u⟩));(· exact .inl rfl)
 sp:=fun q=>by rw[setcH_c x i c hi q];split;(· rename_i t;rw[t];exact sp);(· exact id)
 p:=fun q hq k hk=>by
  rw[setcH_c x i c hi q] at hk ⊢
  split at hk
  ·rename_i t;rw[if_pos t,t];exact⟨k,by rw[←hp];exact hk,by unfold Cl.p;rw[hp],fun _=>Iff.rfl⟩
  ·rename_i t;rw[if_neg t];exact⟨k,hk,rfl,fun _=>Iff.rfl⟩
 le:=fun q hq=>by rw[setcH_c x i c hi q];split;(· rename_i t;rw[t,hp];exact Nat.le_refl _);(· exact Nat.le_refl _)
 us:=by
  have u:units (setcH x i c).cells=units x.cells:=units_set x.cells i c hi (by rw[Hp.c_eq x i hi];unfold unitsOf;rw[e.1,hp]);rw[u];exact h.r3.1
 ul:=Int.le_refl _
 s0:=⟨h.r1.sub.1,Int.le_refl _⟩
 s1:=fun q hq hs=>by
  have k:=h.scan q hs;rw[setcH_c x i c hi q];split
  ·rename_i t;rw[hp,←t];exact k
  ·exact k
theorem Snd.weakT{x:Hp}(h:Snd x)(i:Nat)(hi:i<x.cells.length)(s1:(x.c i).st=1)(n:Int)(hn:0≤n∧n≤3):Snd (setcH x i (weakC (x.c i) n)):=
 h.thin (Thin.self h i _ hi s1 ⟨rfl,rfl,rfl,rfl,rfl⟩ rfl (.inr hn) (.inl rfl) id)
theorem Snd.lastT{x:Hp}(h:Snd x)(i:Nat)(hi:i<x.cells.length)(s1:(x.c i).st=1)(n:Int)(hn:n=0∨n=3):Snd (setcH x i (lastC (x.c i) n)):=
 h.thin (Thin.self h i _ hi s1 ⟨rfl,rfl,rfl,rfl,rfl⟩ rfl (.inl rfl) (.inr ⟨by show 0≤n;omega,by show n≤3;omega⟩) (fun s=>by have s2:n=1∨n=2:=s;omega))
theorem HBox.set9{w:World}{B:Nat}{x:Hp}{vr vc vg:Value}(h:HBox w B x vr vc vg)(u:Int):HBox (w.setCell ⟨B,9,none⟩ (iv u)) B { x with per:=u } vr vc vg:=by
 obtain⟨h0,h1,h2,h3,h4,h5,h6,h7,h8,h9,h10,h11,h12⟩:=h;refine⟨?_,?_,?_,?_,?_,?_,?_,?_,?_,?_,?_,?_,?_⟩ <;> first | exact(cell_other _ (by omega)).trans (by assumption) | exact World.cell?_setCell_same _ _ _ (by assumption)
theorem HBox.set10{w:World}{B:Nat}{x:Hp}{vr vc vg:Value}(h:HBox w B x vr vc vg)(u:Int):HBox (w.setCell ⟨B,10,none⟩ (iv u)) B { x with start:=u } vr vc vg:=by
 obtain⟨h0,h1,h2,h3,h4,h5,h6,h7,h8,h9,h10,h11,h12⟩:=h;refine⟨?_,?_,?_,?_,?_,?_,?_,?_,?_,?_,?_,?_,?_⟩ <;> first | exact(cell_other _ (by omega)).trans (by assumption) | exact World.cell?_setCell_same _ _ _ (by assumption)
theorem shortHc(x:Hp)(i n:Nat)(hi:i<x.cells.length)(q:Nat):(shortH x i n).c q=if q=i then shortC (x.c i) n else x.c q:=Hp.c_set x i (shortC (x.c i) n) hi q
theorem shortC_p(c:Cl)(n k:Nat)(hk:k<(shortC c n).prs.length):(shortC c n).p k=c.p k∧k<n∧k<c.prs.length:=by
 have e:(shortC c n).prs=c.prs.take n:=rfl;rw[e,List.length_take] at hk;refine⟨?_,by omega,by omega⟩;unfold Cl.p;rw[e];simp [show k<n by omega]
theorem Thin.short{x:Hp}(h:Snd x)(i n:Nat)(hi:i<x.cells.length)(s1:(x.c i).st=1):Thin x (shortH x i n) where
 hl:=by simp [shortH]
 rest:=RestH.refl _
 c:=fun q=>by rw[shortHc x i n hi q];split;(· rename_i t;rw[t];exact⟨rfl,rfl,rfl,rfl,rfl⟩);(· exact⟨rfl,rfl,rfl,rfl,rfl⟩)
 wk:=fun q=>by rw[shortHc x i n hi q];split;(· rename_i t;rw[t];exact .inl rfl);(· exact .inl rfl)
 la:=fun q=>by rw[shortHc x i n hi q];split;(· rename_i t;rw[t];exact .inl rfl);(· exact .inl rfl)
 sp:=fun q=>by rw[shortHc x i n hi q];split;(· rename_i t;rw[t];exact id);(· exact id)
 p:=fun q hq k hk=>by
  rw[shortHc x i n hi q] at hk ⊢
  split at hk
  ·rename_i t;rw[if_pos t,t];obtain⟨a,b,c⟩:=shortC_p _ _ _ hk;refine⟨k,c,a,fun hs=>?_⟩;show(k:Int)<(if scanI x=(i:Int)∧(n:Int)<x.sub then (n:Int) else x.sub)↔_
   split <;> omega
  ·rename_i t;rw[if_neg t];refine⟨k,hk,rfl,fun hs=>?_⟩;show(k:Int)<(if scanI x=(i:Int)∧(n:Int)<x.sub then (n:Int) else x.sub)↔_;rw[if_neg (fun u=>by omega)]
 le:=fun q hq=>by
  rw[shortHc x i n hi q];split
  ·rename_i t;rw[t];show((x.c i).prs.take n).length≤_;rw[List.length_take];omega
  ·exact Nat.le_refl _
 us:=by
  have u:=units_set2 x.cells i (shortC (x.c i) n) hi;rw[Hp.c_eq x i hi] at u;have e1:unitsOf (x.c i)=1+(x.c i).prs.length:=by unfold unitsOf;rw[if_pos s1]
  have e2:unitsOf (shortC (x.c i) n)=1+min n (x.c i).prs.length:=by
   unfold unitsOf;show(if (x.c i).st=1 then 1+((x.c i).prs.take n).length else 0)=_;rw[if_pos s1,List.length_take]
  have h3:=h.r3.1;show x.used-(((x.c i).prs.length-n:Nat):Int)=(units (x.cells.set i (shortC (x.c i) n)):Nat);rw[e1,e2] at u;omega
 ul:=by show x.used-(((x.c i).prs.length-n:Nat):Int)≤x.used;omega
 s0:=by
  have:=h.r1.sub;show 0≤(if scanI x=(i:Int)∧(n:Int)<x.sub then (n:Int) else x.sub)∧(if scanI x=(i:Int)∧(n:Int)<x.sub then (n:Int) else x.sub)≤x.sub
  split <;> omega
 s1:=fun q hq hs=>by
  have k:=h.scan q hs;show(if scanI x=(i:Int)∧(n:Int)<x.sub then (n:Int) else x.sub)≤_;rw[shortHc x i n hi q];by_cases t:q=i
  ·rw[if_pos t];have e:(shortC (x.c i) n).prs.length=min n (x.c i).prs.length:=List.length_take;rw[e];rw[t] at k hs
   split <;> omega
  ·rw[if_neg t,if_neg (fun u=>by omega)];exact k
theorem Snd.short{x:Hp}(h:Snd x)(i n:Nat)(hi:i<x.cells.length)(s1:(x.c i).st=1):Snd (shortH x i n):=h.thin (Thin.short h i n hi s1)
theorem within_r(n lo hi:Int)(r:Bool)(h:withinB n lo hi=r)(w:World):Calls Tryz.prog 78 #[.int .i64 n,.int .i64 lo,.int .i64 hi] w fun e w'=>e=.returned (.bool r)∧w'=w:=h ▸ within_any n lo hi w
def wayL:List Value:=[iv 0,iv 0,iv 0,.nilFunc,iv 15,iv 255,iv 200,.func (.func 292) #[] #[],iv 15,iv 0,iv 0,.func (.func 293) #[] #[],iv 15,iv 0,iv 0,.func (.func 294) #[] #[],iv 15,iv 15,iv 0,.func (.func 295) #[] #[],iv 15,iv 15,iv 199,.func (.func 296) #[] #[],iv 15,iv 15,iv 199,.func (.func 296) #[] #[],iv 15,iv 15,iv 199,.func (.func 297) #[] #[],iv 15,iv 15,iv 199,.func (.func 297) #[] #[],iv 15,iv 0,iv 200,.func (.func 298) #[] #[],iv 15,iv 0,iv 200,.func (.func 299) #[] #[],iv 15,iv 0,iv 3,.func (.func 300) #[] #[],iv 15,iv 0,iv 1,.func (.func 301) #[] #[],iv 15,iv 15,iv 0,.func (.func 302) #[] #[],iv 15,iv 0,iv 0,.func (.func 303) #[] #[],iv 15,iv 0,iv 0,.func (.func 304) #[] #[],iv 15,iv 0,iv 0,.func (.func 305) #[] #[],iv 15,iv 0,iv 0,.func (.func 306) #[] #[],iv 0,iv 0,iv 0,.func (.func 307) #[] #[],iv 15,iv 0,iv 0,.func (.func 308) #[] #[],iv 0,iv 0,iv 0,.func (.func 309) #[] #[],iv 0,iv 0,iv 0,.func (.func 310) #[] #[],iv 0,iv 0,iv 100000,.func (.func 311) #[] #[],iv 0,iv 64,iv 4000,.func (.func 312) #[] #[],iv 0,iv 0,iv 0,.func (.func 313) #[] #[]]
def wayF(op:Int):Nat:=if op=1 then 292 else if op=2 then 293 else if op=3 then 294 else if op=4 then 295 else if op=5 then 296 else if op=6 then 296 else if op=7 then 297 else if op=8 then 297 else if op=9 then 298 else if op=10 then 299 else if op=11 then 300 else if op=12 then 301 else if op=13 then 302 else if op=14 then 303 else if op=15 then 304 else if op=16 then 305 else if op=17 then 306 else if op=18 then 307 else if op=19 then 308 else if op=20 then 309 else if op=21 then 310 else if op=22 then 311 else if op=23 then 312 else 313
theorem wayL_at(k:Nat)(h1:1≤k)(h2:k≤24):wayL[k*4]?=some (iv (actA k))∧wayL[k*4+1]?=some (iv (actB k))∧wayL[k*4+2]?=some (iv (actC k))∧wayL[k*4+3]?=some (.func (.func (wayF k)) #[] #[]):=by
 have h:k=1∨k=2∨k=3∨k=4∨k=5∨k=6∨k=7∨k=8∨k=9∨k=10∨k=11∨k=12∨k=13∨k=14∨k=15∨k=16∨k=17∨k=18∨k=19∨k=20∨k=21∨k=22∨k=23∨k=24:=by omega
 rcases h with rfl | rfl | rfl | rfl | rfl | rfl | rfl | rfl | rfl | rfl | rfl | rfl | rfl | rfl | rfl | rfl | rfl | rfl | rfl | rfl | rfl | rfl | rfl | rfl <;> exact⟨rfl,rfl,rfl,rfl⟩
theorem store_row{P:Program}{o:Oper}{a:Act}{K:Act→World→Prop}{Q:Exit→Act→World→Prop}(W:World)(g:Nat)(cur:Array Value)(t:TypeId)(L L':List Value)(hL:L=L')(hg:W.heap[g]?=some (.cells cur t (0,0)))(hl:L'.length=cur.size)(h1:L'.all (·.oneCell')=true)(hk:∀W',W'=W.setRow g L'.toArray→Oper.upon P o a K Q (.ok .skip W')):
  Oper.upon P o a K Q (((storeCells ⟨g,0,none⟩ L).run P W).andThen fun _ w'=>.ok .skip w'):=by
 subst hL;have:=run_storeCells_at (P:=P) g 0 t L 0 cur W hg (by omega) (fun v hv=>List.all_eq_true.1 h1 v hv);rw[this];refine hk _ ?_;have e:List.drop (0+0+L.length) cur.toList=[]:=List.drop_eq_nil_of_le (by simp [hl]);rw[e];simp
theorem heap_third(w:World)(o1 o2 o3:Obj):(((w.alloc o1).alloc o2).alloc o3).heap[w.heap.size+1+1]?=some o3:=by
 have:=heap_alloc_new ((w.alloc o1).alloc o2) o3
 simpa using this
structure TabAt(w W:World)(op a b c n:Int):Prop where
 a0:W.cell? ⟨w.heap.size,0,none⟩=some (iv op)
 a1:W.cell? ⟨w.heap.size,1,none⟩=some (iv a)
 a2:W.cell? ⟨w.heap.size,2,none⟩=some (iv b)
 a3:W.cell? ⟨w.heap.size,3,none⟩=some (iv c)
 a4:W.cell? ⟨w.heap.size,4,none⟩=some (iv n)
 v0:W.cell? ⟨w.heap.size+1,0,none⟩=some (iv 0)
 v1:W.cell? ⟨w.heap.size+1,1,none⟩=some (iv 0)
 v2:W.cell? ⟨w.heap.size+1,2,none⟩=some (iv 0)
 v3:W.cell? ⟨w.heap.size+1,3,none⟩=some .nilFunc
 fz:∀j,W.frozen? ⟨w.heap.size+1,j,none⟩=false
 t:∀j,W.cell? ⟨w.heap.size+1+1,j,none⟩=wayL[j]?
 ex:Ext w W
theorem TabAt.of(w W:World)(op a b c n:Int)(t1 t2 t3:TypeId)(cur:Array Value)(hW:W=(((w.alloc (.cells #[iv op,iv a,iv b,iv c,iv n] t1)).alloc (.cells #[iv 0,iv 0,iv 0,.nilFunc] t2)).alloc (.cells cur t3)).setRow (w.heap.size+1+1) wayL.toArray):TabAt w W op a b c n:=by
 have o0:∀k,k≠w.heap.size+1+1→W.heap[k]?=(((w.alloc (.cells #[iv op,iv a,iv b,iv c,iv n] t1)).alloc (.cells #[iv 0,iv 0,iv 0,.nilFunc] t2)).alloc (.cells cur t3)).heap[k]?:=fun k hk=>by rw[hW];exact setRow_other _ _ k _ hk
 have c0:∀j,W.cell? ⟨w.heap.size,j,none⟩=#[iv op,iv a,iv b,iv c,iv n][j]?:=fun j=>by
  rw[World.cell?_of_block (a:=⟨w.heap.size,j,none⟩) (o0 w.heap.size (by omega))];refine cell_of_row _ w.heap.size j _ t1 (0,0) ?_;rw[Below.heap_alloc _ _ _ (by simp;omega),Below.heap_alloc _ _ _ (by simp)];exact heap_alloc_new w _
 have e1:W.heap[w.heap.size+1]?=some (.cells #[iv 0,iv 0,iv 0,.nilFunc] t2):=by
  rw[o0 _ (by omega),Below.heap_alloc _ _ _ (by simp)];have:=heap_alloc_new (w.alloc (.cells #[iv op,iv a,iv b,iv c,iv n] t1)) (.cells #[iv 0,iv 0,iv 0,.nilFunc] t2);have e:(w.alloc (.cells #[iv op,iv a,iv b,iv c,iv n] t1)).heap.size=w.heap.size+1:=by simp
  rw[e] at this;exact this
 have c1:∀j,W.cell? ⟨w.heap.size+1,j,none⟩=#[iv 0,iv 0,iv 0,.nilFunc][j]?:=fun j=>cell_of_row _ _ j _ t2 (0,0) e1
 have e2:W.heap[w.heap.size+1+1]?=some (.cells wayL.toArray t3):=by
  rw[hW];exact setRow_heap _ _ cur _ t3 _ (heap_third _ _ _ _)
 refine⟨c0 0,c0 1,c0 2,c0 3,c0 4,c1 0,c1 1,c1 2,c1 3,fun j=>?_,fun j=>?_,?_⟩
 ·unfold World.frozen?;simp [e1]
 ·rw[cell_of_row _ _ j _ t3 (0,0) e2];simp
 ·rw[hW];exact Below.trans (((Ext.refl w).alloc _).alloc _ |>.alloc _) ⟨rfl,rfl,rfl,by simp [World.setRow],fun k hk=>setRow_other _ _ k _ (by omega)⟩
theorem Snd.res{x:Hp}(h:Snd x){u:Wd}{m:Prop}(hl:Leads x u m):Leads x (resW x u) False:=by
 unfold resW
 split
 ·rename_i e;have hlt:u.a.toNat<x.cells.length:=by rcases hl.1 with f | f | f <;> omega
  rcases h.r2.1 _ hlt with⟨a,_⟩ | ⟨_,b⟩ | ⟨a,_⟩
  ·have:=e.2;omega
  ·obtain⟨b1,b2,b3,b4,b5,_⟩:=b;exact⟨.inr (.inr ⟨rfl,rfl,b3,show(x.c u.a.toNat).to<_ by omega⟩),fun _=>.inr ⟨b5,fun d=>by have:=d.1;omega⟩⟩
  ·have:=e.2;omega
 ·rename_i e;refine⟨hl.1,fun hk=>?_⟩;rcases hl.2 hk with⟨a,_⟩ | ⟨a,b⟩
  ·exact(e ⟨hk,a⟩).elim
  ·exact .inr ⟨a,b⟩
theorem Snd.half{x:Hp}(h:Snd x)(i k:Nat)(hi:i<x.cells.length)(nd:¬Doomed x i)(hk:k<(x.c i).prs.length):Leads x (resW x ((x.c i).p k).key) False∧Leads x (resW x ((x.c i).p k).val) False:=
 let q:=((h.r4.2 i hi).2 k hk).2 nd
 ⟨h.res q.1,h.res q.2⟩
theorem DoR.sndA{x:Hp}{a b c:Nat}{n:Int}{y:Hp}{cd nm:Int}{k:Nat}(s:Snd x)(ha:a<16)(hb:k≠1→k≠23→b<16)(h23:k=23→b≤64∧c≤4000)(h11:k=11→c≤3)(h12:k=12→c≤1)(hk:k≠1∧k≠9∧k≠18)(h:DoR x a b c n y cd nm k):Snd y:=by
 unfold DoR at h
 split at h
 ·exact absurd rfl hk.1
 ·rw[h.1];exact s.regTo a _ ⟨.inr (.inl ⟨rfl,rfl⟩),fun e=>by cases e⟩
 ·rw[h.1];exact s.regTo a _ ⟨.inl ⟨rfl,rfl,rfl⟩,fun e=>by cases e⟩
 ·rw[h.1];exact s.regTo a _ (s.reg b (hb (by omega) (by omega)))
 ·have b16:=hb (by omega) (by omega);rcases h with h | h | h
  ·rw[h.2.1];exact s
  ·rw[h.2.2.1];exact s
  ·obtain⟨_,_,p3,_,p5⟩:=s.at b b16 h.1;rw[h.2.2.1];exact s.regTo a _ (s.half _ c p3 p5 h.2.1).1
 ·have b16:=hb (by omega) (by omega);rcases h with h | h | h
  ·rw[h.2.1];exact s
  ·rw[h.2.2.1];exact s
  ·obtain⟨_,_,p3,_,p5⟩:=s.at b b16 h.1;rw[h.2.2.1];exact s.regTo a _ (s.half _ c p3 p5 h.2.1).2
 ·have b16:=hb (by omega) (by omega);rcases h with h | h | h
  ·rw[h.2.1];exact s
  ·rw[h.2.2.1];exact s
  ·obtain⟨_,_,p3,p4,p5⟩:=s.at a ha h.1;rw[h.2.2.1];exact s.put _ c p3 p4 p5 h.2.1 _ (s.reg b b16) ⟨x.r b,((x.c (x.at a)).p c).val⟩ (.inl ⟨rfl,rfl⟩)
 ·have b16:=hb (by omega) (by omega);rcases h with h | h | h
  ·rw[h.2.1];exact s
  ·rw[h.2.2.1];exact s
  ·obtain⟨_,_,p3,p4,p5⟩:=s.at a ha h.1;rw[h.2.2.1];exact s.put _ c p3 p4 p5 h.2.1 _ (s.reg b b16) ⟨((x.c (x.at a)).p c).key,x.r b⟩ (.inr ⟨rfl,rfl⟩)
 ·exact absurd rfl hk.2.1
 ·rcases h with h | h
  ·rw[h.2.1];exact s
  ·obtain⟨_,_,p3,p4,p5⟩:=s.at a ha h.1;rw[h.2.1];exact s.short _ c p3 p4
 ·rcases h with h | h
  ·rw[h.2.1];exact s
  ·obtain⟨_,_,p3,p4,p5⟩:=s.at a ha h.1;have:=h11 rfl;rw[h.2.1];exact s.weakT _ p3 p4 c (by omega)
 ·rcases h with h | h
  ·rw[h.2.1];exact s
  ·obtain⟨_,_,p3,p4,p5⟩:=s.at a ha h.1;have:=h12 rfl;rw[h.2.1]
   split
   ·rename_i e;rw[e];exact s.want _ p3 p4 p5
   ·rename_i e;exact s.lastT _ p3 p4 c (.inl (by omega))
 ·rw[h.1];exact s
 ·rw[h.1];exact s
 ·rw[h.1];exact s
 ·rcases h with h | h
  ·rw[h.2.1];exact s
  ·rw[h.2.1];exact s
 ·rcases h with h | h
  ·rw[h.2.1];exact s
  ·rw[h.2.1];exact s
 ·exact absurd rfl hk.2.2
 ·rcases h.2 with h | ⟨i,h⟩
  ·rw[h.2.1];exact s.regTo a _ ⟨.inl ⟨rfl,rfl,rfl⟩,fun e=>by cases e⟩
  ·obtain⟨hi,l2⟩:i<x.cells.length∧(x.c i).last=2:=by
    rcases h.1 with d | ⟨j,e,hj,hl,_⟩
    ·have:=d.1;omega
    ·have e2:i=j:=by omega
     rw[e2];exact⟨hj,hl⟩
   have s1:=speaks_used s.r2 i hi (.inr l2);have nd:¬Doomed x i:=fun d=>(s.r4.2 i hi).1 ⟨d,.inr l2⟩
   have s2:=s.lastT i hi s1 3 (.inr rfl);rw[h.2.1];refine s2.regTo a _ ⟨.inr (.inr ⟨rfl,rfl,by show(0:Int)≤(i:Int);omega,by show(i:Int)<((setcH x i (lastC (x.c i) 3)).cells.length:Nat);rw[setcH_len];omega⟩),fun _=>.inr ?_⟩;show((setcH x i (lastC (x.c i) 3)).c i).st=1∧¬Doomed (setcH x i (lastC (x.c i) 3)) i;unfold Doomed;rw[setcH_c x i _ hi i,if_pos rfl];exact⟨s1,nd⟩
 ·rw[h.1];exact s
 ·rw[h.1];exact s
 ·obtain⟨_,_,k,_,e⟩:=h;rw[e];exact(s.stepH _).itU k
 ·have:=h23 rfl;rw[h.1];exact s.paceTo _ _ (by omega) (by omega)
 ·exact h.2.2.snd s
 ·exact h.elim
end Go.Proofs.YtddkhnclmeikfaaGreat
