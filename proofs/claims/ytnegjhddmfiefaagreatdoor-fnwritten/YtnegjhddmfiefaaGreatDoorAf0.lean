import Derived.Test.YtnegjhddmfiefaaGreatDoorAz
import Derived.Laws.CopyRow
import Derived.Laws.ResultCell
set_option maxRecDepth 100000
set_option maxHeartbeats 4000000
namespace Go.Proofs.YtnegjhddmfiefaaGreatDoor
open Go.RowKit
attribute [local go_sem ↓] Go.wp_at_zero Go.wp_at_succ
theorem scan_rest{x z:Hp}(r:RestH z x)(hl:z.cells.length=x.cells.length):scanI z=scanI x:=by
 obtain⟨_,_,_,r4,r5,r6,_⟩:=r;unfold scanI;rw[r4,r5,r6,hl]
theorem Snd.stTo{x:Hp}(s:Snd x)(H:Nat→Bool):∀k,k≤x.cells.length→Snd (stTo x H k)
 | 0,_=>s
 | k+1,hk=>by
  have sz:=Snd.stTo s H k (by omega);have zl:=stTo_len x H k;have zc:(Go.Proofs.YtnegjhddmfiefaaGreatDoor.stTo x H k).c k=x.c k:=by rw[stTo_c x H k (by omega) k,if_neg (by omega)]
  have sc:=scan_rest (stTo_rest x H k) zl;show Snd (stNext x H k (Go.Proofs.YtnegjhddmfiefaaGreatDoor.stTo x H k));obtain⟨z,hz⟩:∃z,z=Go.Proofs.YtnegjhddmfiefaaGreatDoor.stTo x H k:=⟨_,rfl⟩;rw[←hz] at sz zl zc sc ⊢;have hi:k<z.cells.length:=by omega
  unfold stNext
  split
  ·have e:({ z with cells:=z.cells.set k (letC x H (x.c k)),used:=z.used-goes x H (x.c k) (x.c k).prs,sub:=letSub x H k z.sub }:Hp)=fltH z k (fun p=>!goB x H (x.c k) p) (goes x H (x.c k) (x.c k).prs) (letSub x H k z.sub):=by
    unfold fltH fltC letC stay;rw[zc]
   rw[e];refine sz.thin (Thin.flt sz k hi _ _ _ ?_ ?_)
   ·rw[zc];exact stay_goes x H (x.c k) (x.c k).prs
   ·unfold letSub;rw[sc,zc]
    split
    ·rename_i es;have a:=sz.scan k (by rw[sc];exact es);have b:=sz.r1.sub;rw[zc] at a;have c:=stay_goes x H (x.c k) ((x.c k).prs.take z.sub.toNat);rw[List.length_take] at c;unfold stay at c;omega
    ·rfl
  ·split
   ·rename_i _ e1;have s1:=speaks_used sz.r2 k hi (.inl (by rw[zc];exact e1));have e:({ z with cells:=z.cells.set k (dueC (x.c k)) }:Hp)=setcH z k (dueC (z.c k)):=by rw[zc];rfl
    rw[e];exact sz.thin (Thin.self sz k _ hi s1 ⟨rfl,rfl,rfl,rfl,rfl⟩ rfl (.inl rfl) (.inr ⟨by show(0:Int)≤2;omega,by show(2:Int)≤3;omega⟩) (fun _=>.inl (by rw[zc];exact e1)))
   ·exact sz
theorem Snd.settle{x:Hp}(s:Snd x)(H:Nat→Bool):Snd (settleH x H):=by
 rw[←stTo_all];exact s.stTo H _ (Nat.le_refl _)
theorem DoR.sndB{x:Hp}{a b c:Nat}{n:Int}{y:Hp}{cd nm:Int}{k:Nat}(s:Snd x)(ha:a<16)(hb:k≠1→k≠23→b<16)(h1:k=1→b≤255∧c≤200)(h23:k=23→b≤64∧c≤4000)(h11:k=11→c≤3)(h12:k=12→c≤1)(hk:k≠9)(h:DoR x a b c n y cd nm k):Snd y:=by
 by_cases e1:k=1
 ·subst e1;exact MakeIs.snd s (h1 rfl).1 (h1 rfl).2 h
 ·by_cases e2:k=18
  ·subst e2;obtain⟨_,H,_,e,_⟩:=h;rw[e];exact s.settle H
  ·exact h.sndA s ha hb h23 h11 h12 ⟨e1,hk,e2⟩
theorem DoR.snd{x:Hp}{a b c:Nat}{n:Int}{y:Hp}{cd nm:Int}{k:Nat}(s:Snd x)(ha:a<16)(hb:k≠1→k≠23→b<16)(h1:k=1→b≤255∧c≤200)(h23:k=23→b≤64∧c≤4000)(h11:k=11→c≤3)(h12:k=12→c≤1)(h:DoR x a b c n y cd nm k):Snd y:=by
 by_cases e9:k=9
 ·subst e9;rcases h with h | h
  ·rw[h.2.1];exact s
  ·exact GrowIs.snd s ha h.1 rfl h.2
 ·exact h.sndB s ha hb h1 h23 h11 h12 e9
theorem within_r(n lo hi:Int)(r:Bool)(h:withinB n lo hi=r)(w:World):Calls Tryz.prog 32 #[.int .i64 n,.int .i64 lo,.int .i64 hi] w fun e w'=>e=.returned (.bool r)∧w'=w:=h ▸ within_any n lo hi w
def wayL:List Value:=[iv 0,iv 0,iv 0,.nilFunc,iv 15,iv 255,iv 200,.func (.func 54) #[] #[],iv 15,iv 0,iv 0,.func (.func 55) #[] #[],iv 15,iv 0,iv 0,.func (.func 56) #[] #[],iv 15,iv 15,iv 0,.func (.func 57) #[] #[],iv 15,iv 15,iv 199,.func (.func 58) #[] #[],iv 15,iv 15,iv 199,.func (.func 58) #[] #[],iv 15,iv 15,iv 199,.func (.func 59) #[] #[],iv 15,iv 15,iv 199,.func (.func 59) #[] #[],iv 15,iv 0,iv 200,.func (.func 60) #[] #[],iv 15,iv 0,iv 200,.func (.func 61) #[] #[],iv 15,iv 0,iv 3,.func (.func 62) #[] #[],iv 15,iv 0,iv 1,.func (.func 63) #[] #[],iv 15,iv 15,iv 0,.func (.func 64) #[] #[],iv 15,iv 0,iv 0,.func (.func 65) #[] #[],iv 15,iv 0,iv 0,.func (.func 66) #[] #[],iv 15,iv 0,iv 0,.func (.func 67) #[] #[],iv 15,iv 0,iv 0,.func (.func 68) #[] #[],iv 0,iv 0,iv 0,.func (.func 69) #[] #[],iv 15,iv 0,iv 0,.func (.func 70) #[] #[],iv 0,iv 0,iv 0,.func (.func 71) #[] #[],iv 0,iv 0,iv 0,.func (.func 72) #[] #[],iv 0,iv 0,iv 100000,.func (.func 73) #[] #[],iv 0,iv 64,iv 4000,.func (.func 74) #[] #[],iv 0,iv 0,iv 0,.func (.func 75) #[] #[]]
def wayF(op:Int):Nat:=if op=1 then 54 else if op=2 then 55 else if op=3 then 56 else if op=4 then 57 else if op=5 then 58 else if op=6 then 58 else if op=7 then 59 else if op=8 then 59 else if op=9 then 60 else if op=10 then 61 else if op=11 then 62 else if op=12 then 63 else if op=13 then 64 else if op=14 then 65 else if op=15 then 66 else if op=16 then 67 else if op=17 then 68 else if op=18 then 69 else if op=19 then 70 else if op=20 then 71 else if op=21 then 72 else if op=22 then 73 else if op=23 then 74 else 75
theorem wayL_at(k:Nat)(h1:1≤k)(h2:k≤24):wayL[k*4]?=some (iv (actA k))∧wayL[k*4+1]?=some (iv (actB k))∧wayL[k*4+2]?=some (iv (actC k))∧wayL[k*4+3]?=some (.func (.func (wayF k)) #[] #[]):=by
 have h:k=1∨k=2∨k=3∨k=4∨k=5∨k=6∨k=7∨k=8∨k=9∨k=10∨k=11∨k=12∨k=13∨k=14∨k=15∨k=16∨k=17∨k=18∨k=19∨k=20∨k=21∨k=22∨k=23∨k=24:=by omega
 rcases h with rfl | rfl | rfl | rfl | rfl | rfl | rfl | rfl | rfl | rfl | rfl | rfl | rfl | rfl | rfl | rfl | rfl | rfl | rfl | rfl | rfl | rfl | rfl | rfl <;> exact⟨rfl,rfl,rfl,rfl⟩
theorem store_row{P:Program}{o:Oper}{a:Act}{K:Act→World→Prop}{Q:Exit→Act→World→Prop}(W:World)(g:Nat)(cur:Array Value)(t:TypeId)(L L':List Value)(hL:L=L')(hg:W.heap[g]?=some (.cells cur t (0,0)))(hl:L'.length=cur.size)(h1:L'.all (·.oneCell')=true)(hk:∀W',W'=W.setRow g L'.toArray→Oper.upon P o a K Q (.ok .skip W')):
  Oper.upon P o a K Q (((storeCells ⟨g,0,none⟩ L).run P W).andThen fun _ w'=>.ok .skip w'):=by
 subst hL;have:=run_storeCells_at (P:=P) g 0 t L 0 cur W hg (by omega) (fun v hv=>List.all_eq_true.1 h1 v hv);rw[this];refine hk _ ?_;have e:List.drop (0+0+L.length) cur.toList=[]:=List.drop_eq_nil_of_le (by simp [hl]);rw[e];simp
theorem heap_third(w:World)(o1 o2 o3:Obj):(((w.alloc o1).alloc o2).alloc o3).heap[w.heap.size+1+1]?=some o3:=by
 have:=heap_alloc_new ((w.alloc o1).alloc o2) o3
 simpa using this
structure TabAt(w W:World)(op a b c n:Int):Prop where
 a0:W.cell? ⟨w.heap.size,0,none⟩=some (iv op)
 a1:W.cell? ⟨w.heap.size,1,none⟩=some (iv a)
 a2:W.cell? ⟨w.heap.size,2,none⟩=some (iv b)
 a3:W.cell? ⟨w.heap.size,3,none⟩=some (iv c)
 a4:W.cell? ⟨w.heap.size,4,none⟩=some (iv n)
 v0:W.cell? ⟨w.heap.size+1,0,none⟩=some (iv 0)
 v1:W.cell? ⟨w.heap.size+1,1,none⟩=some (iv 0)
 v2:W.cell? ⟨w.heap.size+1,2,none⟩=some (iv 0)
 v3:W.cell? ⟨w.heap.size+1,3,none⟩=some .nilFunc
 fz:∀j,W.frozen? ⟨w.heap.size+1,j,none⟩=false
 t:∀j,W.cell? ⟨w.heap.size+1+1,j,none⟩=wayL[j]?
 ex:Ext w W
theorem TabAt.of(w W:World)(op a b c n:Int)(t1 t2 t3:TypeId)(cur:Array Value)(hW:W=(((w.alloc (.cells #[iv op,iv a,iv b,iv c,iv n] t1)).alloc (.cells #[iv 0,iv 0,iv 0,.nilFunc] t2)).alloc (.cells cur t3)).setRow (w.heap.size+1+1) wayL.toArray):TabAt w W op a b c n:=by
 have o0:∀k,k≠w.heap.size+1+1→W.heap[k]?=(((w.alloc (.cells #[iv op,iv a,iv b,iv c,iv n] t1)).alloc (.cells #[iv 0,iv 0,iv 0,.nilFunc] t2)).alloc (.cells cur t3)).heap[k]?:=fun k hk=>by rw[hW];exact setRow_other _ _ k _ hk
 have c0:∀j,W.cell? ⟨w.heap.size,j,none⟩=#[iv op,iv a,iv b,iv c,iv n][j]?:=fun j=>by
  rw[World.cell?_of_block (a:=⟨w.heap.size,j,none⟩) (o0 w.heap.size (by omega))];refine cell_of_row _ w.heap.size j _ t1 (0,0) ?_;rw[Below.heap_alloc _ _ _ (by simp;omega),Below.heap_alloc _ _ _ (by simp)];exact heap_alloc_new w _
 have e1:W.heap[w.heap.size+1]?=some (.cells #[iv 0,iv 0,iv 0,.nilFunc] t2):=by
  rw[o0 _ (by omega),Below.heap_alloc _ _ _ (by simp)];have:=heap_alloc_new (w.alloc (.cells #[iv op,iv a,iv b,iv c,iv n] t1)) (.cells #[iv 0,iv 0,iv 0,.nilFunc] t2);have e:(w.alloc (.cells #[iv op,iv a,iv b,iv c,iv n] t1)).heap.size=w.heap.size+1:=by simp
  rw[e] at this;exact this
 have c1:∀j,W.cell? ⟨w.heap.size+1,j,none⟩=#[iv 0,iv 0,iv 0,.nilFunc][j]?:=fun j=>cell_of_row _ _ j _ t2 (0,0) e1
 have e2:W.heap[w.heap.size+1+1]?=some (.cells wayL.toArray t3):=by
  rw[hW];exact setRow_heap _ _ cur _ t3 _ (heap_third _ _ _ _)
 refine⟨c0 0,c0 1,c0 2,c0 3,c0 4,c1 0,c1 1,c1 2,c1 3,fun j=>?_,fun j=>?_,?_⟩
 ·unfold World.frozen?;simp [e1]
 ·rw[cell_of_row _ _ j _ t3 (0,0) e2];simp
 ·rw[hW];exact Below.trans (((Ext.refl w).alloc _).alloc _ |>.alloc _) ⟨rfl,rfl,rfl,by simp [World.setRow],fun k hk=>setRow_other _ _ k _ (by omega)⟩
theorem wayOf_out(op a b c n:Int)(w:World)(h:withinB op 1 24=false):Calls Tryz.prog 35 #[actV op a b c n] w fun e w'=>e=.returned (.tuple #[.agg #[iv 0,iv 0,iv 0,.nilFunc],.bool false])∧Ext w w':=by
 have QO:=hide (fun W=>within_r op 1 24 false h W);go_enter Tryz.func35,Tryz.ntmps35;go_wp2_with fail;refine store_row _ _ _ _ _ wayL (by kernel_rfl) (heap_third _ _ _ _) (by kernel_rfl) (by kernel_rfl) ?_;intro W4 hW4;have T:=TabAt.of _ _ _ _ _ _ _ _ _ _ _ hW4;clear hW4;obtain⟨a0,a1,a2,a3,a4,v0,v1,v2,v3,fz,tt,ex⟩:=T;have TT:=hide tt;have X:=hide ex;clear tt ex;simp only [Oper.upon];go_wp2_with (go_at_call 32;refine(unhide QO _).mono ?_;rintro e w2 ⟨rfl,rfl⟩);refine bodyPost_ret (by rw[results_cell_tmp rfl];simp [go_sem,loadVar,v0,v1,v2,v3];rfl) rfl ?_;exact⟨rfl,((((unhide X).setCell (p:=⟨w.heap.size+1,0,none⟩) (Nat.le_succ _) _).setCell (p:=⟨w.heap.size+1,1,none⟩) (Nat.le_succ _) _).setCell (p:=⟨w.heap.size+1,2,none⟩) (Nat.le_succ _) _).setCell (p:=⟨w.heap.size+1,3,none⟩) (Nat.le_succ _) _⟩
theorem wayOf_num(k:Nat)(a b c n:Int)(w:World)(h1:1≤k)(h2:k≤24)(q1:((k:Int) != 2)=true)(q2:(n != 0)=true):Calls Tryz.prog 35 #[actV k a b c n] w fun e w'=>e=.returned (.tuple #[.agg #[iv 0,iv 0,iv 0,.nilFunc],.bool false])∧Ext w w':=by
 have QO:=hide (fun W=>within_r k 1 24 true (by simp [withinB];omega) W);clear h1 h2;go_enter Tryz.func35,Tryz.ntmps35;go_wp2_with fail;refine store_row _ _ _ _ _ wayL (by kernel_rfl) (heap_third _ _ _ _) (by kernel_rfl) (by kernel_rfl) ?_;intro W4 hW4;have T:=TabAt.of _ _ _ _ _ _ _ _ _ _ _ hW4;clear hW4;obtain⟨a0,a1,a2,a3,a4,v0,v1,v2,v3,fz,tt,ex⟩:=T;have TT:=hide tt;have X:=hide ex;clear tt ex;simp only [Oper.upon];go_wp2_with (go_at_call 32;refine(unhide QO _).mono ?_;rintro e w2 ⟨rfl,rfl⟩);refine bodyPost_ret (by rw[results_cell_tmp rfl];simp [go_sem,loadVar,v0,v1,v2,v3];rfl) rfl ?_;exact⟨rfl,((((unhide X).setCell (p:=⟨w.heap.size+1,0,none⟩) (Nat.le_succ _) _).setCell (p:=⟨w.heap.size+1,1,none⟩) (Nat.le_succ _) _).setCell (p:=⟨w.heap.size+1,2,none⟩) (Nat.le_succ _) _).setCell (p:=⟨w.heap.size+1,3,none⟩) (Nat.le_succ _) _⟩
theorem ext_drawn{a w:World}(h:Ext a w)(n:Nat):Ext a (w.drewN n):=⟨h.os,h.tape,h.output,h.size,fun k hk=>h.block k hk⟩
theorem set_self(w:World)(p:Addr)(v:Value)(h:w.cell? p=some v):w.setCell p v=w:=by
 have key:(w.setCell p v).heap=w.heap:=by
  unfold World.cell? at h;unfold World.setCell;apply Array.ext_getElem?;intro i;rw[Array.getElem?_modify];by_cases e:p.block=i
  ·subst e;rw[if_pos rfl];cases hh:w.heap[p.block]? with
   | none=>rfl
   | some o=>
    rw[hh] at h;cases o with
    | cells c t f=>
     simp only at h;by_cases hs:p.spot.isSome=true
     ·simp [hs] at h
     ·simp only [hs] at h;simp only [Option.map_some,hs]
      congr 1
      have hc:c.setIfInBounds p.off v=c:=by
       apply Array.ext_getElem?;intro k;rw[Array.getElem?_setIfInBounds];by_cases e2:p.off=k
       ·subst e2;rw[if_pos rfl];have:=(Array.getElem?_eq_some_iff.1 h).1;rw[if_pos this];exact h.symm
       ·rw[if_neg e2]
      simp [hc]
    | _=>simp at h
  ·rw[if_neg e]
 unfold World.setCell at key ⊢;simp only at key;rw[key]
theorem wayOf_in(k:Nat)(a b c n:Int)(w:World)(h1:1≤k)(h2:k≤24)(h3:(n != 0)=false∨((n != 0)=true∧((k:Int) != 2)=false))(r:Bool)(hr:(decide (0≤a∧a≤actA k) && (decide (0≤b∧b≤actB k) && decide (0≤c∧c≤actC k)))=r):Calls Tryz.prog 35 #[actV k a b c n] w fun e w'=>e=.returned (.tuple #[.agg #[iv (actA k),iv (actB k),iv (actC k),.func (.func (wayF k)) #[] #[]],.bool r])∧Ext w w':=by
 have QO:=hide (fun W=>within_r k 1 24 true (by simp [withinB];omega) W);have LL:=hide (wayL_at k h1 h2);have k0:(0:Int)≤(k:Int):=by omega
 have k1:(k:Int)<25:=by omega
 obtain⟨am,ea⟩:∃v,v=actA k:=⟨_,rfl⟩;obtain⟨bm,eb⟩:∃v,v=actB k:=⟨_,rfl⟩;obtain⟨cm,ec⟩:∃v,v=actC k:=⟨_,rfl⟩;obtain⟨fm,ef⟩:∃v,v=wayF k:=⟨_,rfl⟩;rw[←ea,←eb,←ec,←ef] at LL;rw[←ea,←eb,←ec] at hr;rw[←ea,←eb,←ec,←ef];have HR:=hide hr;clear ea eb ec ef hr h1 h2;go_enter Tryz.func35,Tryz.ntmps35;go_wp2_with fail;refine store_row _ _ _ _ _ wayL (by kernel_rfl) (heap_third _ _ _ _) (by kernel_rfl) (by kernel_rfl) ?_;intro W4 hW4;have T:=TabAt.of _ _ _ _ _ _ _ _ _ _ _ hW4;clear hW4;obtain⟨a0,a1,a2,a3,a4,v0,v1,v2,v3,fz,tt,ex⟩:=T;have t0:=(tt (k*4)).trans (unhide LL).1;have t1:=(tt (k*4+1)).trans (unhide LL).2.1;have t2:=(tt (k*4+2)).trans (unhide LL).2.2.1;have t3:=(tt (k*4+3)).trans (unhide LL).2.2.2;have X:=hide ex;clear tt ex LL;simp only [Oper.upon];rcases h3 with h3 | h3
 ·have q2:=h3;clear h3;go_wp2_with (go_at_call 32;refine(unhide QO _).mono ?_;rintro e w2 ⟨rfl,hw2⟩;rw[hw2];clear hw2 w2);obtain⟨W5,hW5⟩:∃W,W=((((W4.setCell ⟨w.heap.size+1,0,none⟩ (iv am)).setCell ⟨w.heap.size+1,1,none⟩ (iv bm)).setCell ⟨w.heap.size+1,2,none⟩ (iv cm)).setCell ⟨w.heap.size+1,3,none⟩ (.func (.func fm) #[] #[])):=⟨_,rfl⟩;have d0:W5.cell? ⟨w.heap.size+1,0,none⟩=some (iv am):=by rw[hW5];simp [go_sem,v0]
  have d1:W5.cell? ⟨w.heap.size+1,1,none⟩=some (iv bm):=by rw[hW5];simp [go_sem,v1]
  have d2:W5.cell? ⟨w.heap.size+1,2,none⟩=some (iv cm):=by rw[hW5];simp [go_sem,v2]
  have d3:W5.cell? ⟨w.heap.size+1,3,none⟩=some (.func (.func fm) #[] #[]):=by rw[hW5];simp [go_sem,v3]
  have b1:W5.cell? ⟨w.heap.size,1,none⟩=some (iv a):=by rw[hW5];simp [go_sem,a1]
  have b2:W5.cell? ⟨w.heap.size,2,none⟩=some (iv b):=by rw[hW5];simp [go_sem,a2]
  have b3:W5.cell? ⟨w.heap.size,3,none⟩=some (iv c):=by rw[hW5];simp [go_sem,a3]
  have f5:∀j,W5.frozen? ⟨w.heap.size+1,j,none⟩=false:=fun j=>by rw[hW5];simp [go_sem,fz]
  have X5:=hide (show Ext w W5 by rw[hW5];exact((((unhide X).setCell (p:=⟨w.heap.size+1,0,none⟩) (Nat.le_succ _) _).setCell (p:=⟨w.heap.size+1,1,none⟩) (Nat.le_succ _) _).setCell (p:=⟨w.heap.size+1,2,none⟩) (Nat.le_succ _) _).setCell (p:=⟨w.heap.size+1,3,none⟩) (Nat.le_succ _) _);rw[←hW5];clear hW5 a0 a1 a2 a3 a4 v0 v1 v2 v3 fz t0 t1 t2 t3 X
  have SS:=hide (show ∀m,((((W5.drewN m).setCell ⟨w.heap.size+1,0,none⟩ (.int .i64 am)).setCell ⟨w.heap.size+1,1,none⟩ (.int .i64 bm)).setCell ⟨w.heap.size+1,2,none⟩ (.int .i64 cm)).setCell ⟨w.heap.size+1,3,none⟩ (.func (.func fm) #[] #[])=W5.drewN m from fun m=>by
   have k:=ext_drawn (Ext.refl W5) m;rw[set_self _ _ _ (k.keep d0),set_self _ _ _ (k.keep d1),set_self _ _ _ (k.keep d2),set_self _ _ _ (k.keep d3)])
  cases qa:withinB a 0 am
  ·have QA:=hide (fun W=>within_r a 0 am false qa W);have ER:=hide (show false=r by rw[←unhide HR];have e:decide (0≤a∧a≤am)=false:=qa;rw[e];rfl);refine wp_region_quiet_lit (by kernel_rfl) (by kernel_rfl) ?_
   repeat (quiet_step (first | (go_at_call_of 32 (a);exact Calls.quiet_of_same (unhide QA _))))
   refine wpQuiet_step (fun K hK=>?_)
   go_simp
   refine⟨⟨undef,fun m=>⟨unhide SS m,rfl⟩⟩,hK _ ?_⟩;clear hK K
   repeat (quiet_step (fail))
   refine wpQuiet_nil ?_;rintro _ ⟨nq,rfl⟩;go_wp2_with fail;refine bodyPost_ret (by rw[results_cell_tmp rfl];simp [go_sem,loadVar,d0,d1,d2,d3];rfl) rfl ?_;exact⟨by rw[←unhide ER],ext_drawn (unhide X5) _⟩
  ·have QA:=hide (fun W=>within_r a 0 am true qa W);cases qb:withinB b 0 bm
   ·have QB:=hide (fun W=>within_r b 0 bm false qb W);have ER:=hide (show false=r by rw[←unhide HR];have e1:decide (0≤a∧a≤am)=true:=qa;have e:decide (0≤b∧b≤bm)=false:=qb;rw[e1,e];rfl);refine wp_region_quiet_lit (by kernel_rfl) (by kernel_rfl) ?_
    repeat (quiet_step (first | (go_at_call_of 32 (a);exact Calls.quiet_of_same (unhide QA _)) | (go_at_call_of 32 (b);exact Calls.quiet_of_same (unhide QB _))))
    refine wpQuiet_step (fun K hK=>?_)
    go_simp
    refine⟨⟨undef,fun m=>⟨unhide SS m,rfl⟩⟩,hK _ ?_⟩;clear hK K
    repeat (quiet_step (fail))
    refine wpQuiet_nil ?_;rintro _ ⟨nq,rfl⟩;go_wp2_with fail;refine bodyPost_ret (by rw[results_cell_tmp rfl];simp [go_sem,loadVar,d0,d1,d2,d3];rfl) rfl ?_;exact⟨by rw[←unhide ER],ext_drawn (unhide X5) _⟩
   ·have QB:=hide (fun W=>within_r b 0 bm true qb W);have QC:=hide (fun W=>within_any c 0 cm W);have ER:=hide (show withinB c 0 cm=r by rw[←unhide HR];have e1:decide (0≤a∧a≤am)=true:=qa;have e:decide (0≤b∧b≤bm)=true:=qb;rw[e1,e];rfl);refine wp_region_quiet_lit (by kernel_rfl) (by kernel_rfl) ?_
    repeat (quiet_step (first | (go_at_call_of 32 (a);exact Calls.quiet_of_same (unhide QA _)) | (go_at_call_of 32 (b);exact Calls.quiet_of_same (unhide QB _)) | (go_at_call_of 32 (c);exact Calls.quiet_of_same (unhide QC _))))
    refine wpQuiet_step (fun K hK=>?_)
    go_simp
    refine⟨⟨undef,fun m=>⟨unhide SS m,rfl⟩⟩,hK _ ?_⟩;clear hK K
    repeat (quiet_step (fail))
    refine wpQuiet_nil ?_;rintro _ ⟨nq,rfl⟩;go_wp2_with fail;refine bodyPost_ret (by rw[results_cell_tmp rfl];simp [go_sem,loadVar,d0,d1,d2,d3];rfl) rfl ?_;exact⟨by rw[←unhide ER],ext_drawn (unhide X5) _⟩
 ·have q2:=h3.1;have q1:=h3.2;clear h3;go_wp2_with (go_at_call 32;refine(unhide QO _).mono ?_;rintro e w2 ⟨rfl,hw2⟩;rw[hw2];clear hw2 w2);obtain⟨W5,hW5⟩:∃W,W=((((W4.setCell ⟨w.heap.size+1,0,none⟩ (iv am)).setCell ⟨w.heap.size+1,1,none⟩ (iv bm)).setCell ⟨w.heap.size+1,2,none⟩ (iv cm)).setCell ⟨w.heap.size+1,3,none⟩ (.func (.func fm) #[] #[])):=⟨_,rfl⟩;have d0:W5.cell? ⟨w.heap.size+1,0,none⟩=some (iv am):=by rw[hW5];simp [go_sem,v0]
  have d1:W5.cell? ⟨w.heap.size+1,1,none⟩=some (iv bm):=by rw[hW5];simp [go_sem,v1]
  have d2:W5.cell? ⟨w.heap.size+1,2,none⟩=some (iv cm):=by rw[hW5];simp [go_sem,v2]
  have d3:W5.cell? ⟨w.heap.size+1,3,none⟩=some (.func (.func fm) #[] #[]):=by rw[hW5];simp [go_sem,v3]
  have b1:W5.cell? ⟨w.heap.size,1,none⟩=some (iv a):=by rw[hW5];simp [go_sem,a1]
  have b2:W5.cell? ⟨w.heap.size,2,none⟩=some (iv b):=by rw[hW5];simp [go_sem,a2]
  have b3:W5.cell? ⟨w.heap.size,3,none⟩=some (iv c):=by rw[hW5];simp [go_sem,a3]
  have f5:∀j,W5.frozen? ⟨w.heap.size+1,j,none⟩=false:=fun j=>by rw[hW5];simp [go_sem,fz]
  have X5:=hide (show Ext w W5 by rw[hW5];exact((((unhide X).setCell (p:=⟨w.heap.size+1,0,none⟩) (Nat.le_succ _) _).setCell (p:=⟨w.heap.size+1,1,none⟩) (Nat.le_succ _) _).setCell (p:=⟨w.heap.size+1,2,none⟩) (Nat.le_succ _) _).setCell (p:=⟨w.heap.size+1,3,none⟩) (Nat.le_succ _) _);rw[←hW5];clear hW5 a0 a1 a2 a3 a4 v0 v1 v2 v3 fz t0 t1 t2 t3 X
  have SS:=hide (show ∀m,((((W5.drewN m).setCell ⟨w.heap.size+1,0,none⟩ (.int .i64 am)).setCell ⟨w.heap.size+1,1,none⟩ (.int .i64 bm)).setCell ⟨w.heap.size+1,2,none⟩ (.int .i64 cm)).setCell ⟨w.heap.size+1,3,none⟩ (.func (.func fm) #[] #[])=W5.drewN m from fun m=>by
   have k:=ext_drawn (Ext.refl W5) m;rw[set_self _ _ _ (k.keep d0),set_self _ _ _ (k.keep d1),set_self _ _ _ (k.keep d2),set_self _ _ _ (k.keep d3)])
  cases qa:withinB a 0 am
  ·have QA:=hide (fun W=>within_r a 0 am false qa W);have ER:=hide (show false=r by rw[←unhide HR];have e:decide (0≤a∧a≤am)=false:=qa;rw[e];rfl);refine wp_region_quiet_lit (by kernel_rfl) (by kernel_rfl) ?_
   repeat (quiet_step (first | (go_at_call_of 32 (a);exact Calls.quiet_of_same (unhide QA _))))
   refine wpQuiet_step (fun K hK=>?_)
   go_simp
   refine⟨⟨undef,fun m=>⟨unhide SS m,rfl⟩⟩,hK _ ?_⟩;clear hK K
   repeat (quiet_step (fail))
   refine wpQuiet_nil ?_;rintro _ ⟨nq,rfl⟩;go_wp2_with fail;refine bodyPost_ret (by rw[results_cell_tmp rfl];simp [go_sem,loadVar,d0,d1,d2,d3];rfl) rfl ?_;exact⟨by rw[←unhide ER],ext_drawn (unhide X5) _⟩
  ·have QA:=hide (fun W=>within_r a 0 am true qa W);cases qb:withinB b 0 bm
   ·have QB:=hide (fun W=>within_r b 0 bm false qb W);have ER:=hide (show false=r by rw[←unhide HR];have e1:decide (0≤a∧a≤am)=true:=qa;have e:decide (0≤b∧b≤bm)=false:=qb;rw[e1,e];rfl);refine wp_region_quiet_lit (by kernel_rfl) (by kernel_rfl) ?_
    repeat (quiet_step (first | (go_at_call_of 32 (a);exact Calls.quiet_of_same (unhide QA _)) | (go_at_call_of 32 (b);exact Calls.quiet_of_same (unhide QB _))))
    refine wpQuiet_step (fun K hK=>?_)
    go_simp
    refine⟨⟨undef,fun m=>⟨unhide SS m,rfl⟩⟩,hK _ ?_⟩;clear hK K
    repeat (quiet_step (fail))
    refine wpQuiet_nil ?_;rintro _ ⟨nq,rfl⟩;go_wp2_with fail;refine bodyPost_ret (by rw[results_cell_tmp rfl];simp [go_sem,loadVar,d0,d1,d2,d3];rfl) rfl ?_;exact⟨by rw[←unhide ER],ext_drawn (unhide X5) _⟩
   ·have QB:=hide (fun W=>within_r b 0 bm true qb W);have QC:=hide (fun W=>within_any c 0 cm W);have ER:=hide (show withinB c 0 cm=r by rw[←unhide HR];have e1:decide (0≤a∧a≤am)=true:=qa;have e:decide (0≤b∧b≤bm)=true:=qb;rw[e1,e];rfl);refine wp_region_quiet_lit (by kernel_rfl) (by kernel_rfl) ?_
    repeat (quiet_step (first | (go_at_call_of 32 (a);exact Calls.quiet_of_same (unhide QA _)) | (go_at_call_of 32 (b);exact Calls.quiet_of_same (unhide QB _)) | (go_at_call_of 32 (c);exact Calls.quiet_of_same (unhide QC _))))
    refine wpQuiet_step (fun K hK=>?_)
    go_simp
    refine⟨⟨undef,fun m=>⟨unhide SS m,rfl⟩⟩,hK _ ?_⟩;clear hK K
    repeat (quiet_step (fail))
    refine wpQuiet_nil ?_;rintro _ ⟨nq,rfl⟩;go_wp2_with fail;refine bodyPost_ret (by rw[results_cell_tmp rfl];simp [go_sem,loadVar,d0,d1,d2,d3];rfl) rfl ?_;exact⟨by rw[←unhide ER],ext_drawn (unhide X5) _⟩
theorem wayOf_ok(op a b c n:Int)(w:World):Calls Tryz.prog 35 #[actV op a b c n] w fun e w'=>(∃(i j l:Int) (u:Value),Hid (e=.returned (.tuple #[.agg #[iv i,iv j,iv l,u],.bool (actOkB op a b c n)]))∧(u=.nilFunc∨∃m,u=.func (.func m) #[] #[]))∧Ext w w':=by
 cases h:withinB op 1 24
 ·have hh:¬(1≤op∧op≤24):=by simpa [withinB] using h
  have e:actOkB op a b c n=false:=act_no (by omega);rw[e];exact(wayOf_out op a b c n w h).mono fun e w' ⟨h1,h2⟩=>⟨⟨_,_,_,_,h1,.inl rfl⟩,h2⟩
 ·have hh:1≤op∧op≤24:=by simpa [withinB] using h
  obtain⟨k,rfl⟩:∃k:Nat,op=(k:Int):=⟨op.toNat,by omega⟩;by_cases h3:n≠0∧(k:Int)≠2
  ·have e:actOkB k a b c n=false:=act_no (.inr (.inr h3));rw[e];exact(wayOf_num k a b c n w (by omega) (by omega) (by simpa using h3.2) (by simpa using h3.1)).mono fun e w' ⟨h1,h2⟩=>⟨⟨_,_,_,_,h1,.inl rfl⟩,h2⟩
  ·have e:(decide (0≤a∧a≤actA k) && (decide (0≤b∧b≤actB k) && decide (0≤c∧c≤actC k)))=actOkB k a b c n:=by
    have h4:n=0∨(k:Int)=2:=by omega
    have e0:decide ((1≤(k:Int)∧(k:Int)≤24)∧(n=0∨(k:Int)=2))=true:=decide_eq_true ⟨hh,h4⟩;unfold actOkB;rw[e0];rfl
   refine(wayOf_in k a b c n w (by omega) (by omega) ?_ _ e).mono fun e w' ⟨h1,h2⟩=>⟨⟨_,_,_,_,h1,.inr ⟨_,rfl⟩⟩,h2⟩
   by_cases h5:n=0
   ·exact .inl (by simpa using h5)
   ·exact .inr ⟨by simpa using h5,by have:(k:Int)=2:=(by omega);simpa using this⟩
theorem implActOk_any(op a b c n:Int)(w:World):Calls Tryz.prog 15 #[actV op a b c n] w fun e w'=>e=.returned (.bool (actOkB op a b c n))∧Ext w w':=by
 have Q:=hide (fun W=>wayOf_ok op a b c n W);go_enter Tryz.func15,Tryz.ntmps15;go_wp2_with fail;refine(unhide Q _).mono ?_;rintro e w2 ⟨⟨i,j,l,u,he,hu⟩,x2⟩;have e2:=unhide he;clear he;subst e2;obtain⟨r,er⟩:∃r,r=actOkB op a b c n:=⟨_,rfl⟩;rw[←er];have ER:=hide er;clear er;rcases hu with rfl | ⟨m,rfl⟩
 all_goals
  go_wp2_with fail;go_ret;exact⟨by rw[←unhide ER];rfl,(((Ext.refl _).alloc _).trans x2).alloc _⟩
end Go.Proofs.YtnegjhddmfiefaaGreatDoor
