import Derived.Test.YtddkhnclmeikfaaGreatVh
import Derived.Test.YtddkhnclmeikfaaGreatSp1
import Derived.Laws.StructEq
set_option maxRecDepth 100000
set_option maxHeartbeats 4000000
namespace Go.Proofs.YtddkhnclmeikfaaGreat
open Go.RowKit
attribute [local go_sem ↓] Go.wp_at_zero Go.wp_at_succ
def Bes(o1 o2:Option Nat)(Mt Mt' St St':List Nat)(g g':Nat→List (Option Nat)):Prop:=
 ((o1=none∨∃k,o1=some k∧k∈Mt)∧Grow (fun i=>o2=some i) Mt Mt' St St'∧(∀i,o2=some i→i∈Mt')∧g'=g)∨(∃k,o1=some k∧¬k∈Mt∧Mt'=Mt∧St'=St∧g'=fun q=>if q=k then g k++[o2] else g q)
theorem waits_und:∃et,Tryz.prog.underlying 170=some (.map 126 et)∧∀w,(zeroValue et).run Tryz.prog w=.ok (.slice none 0 0) w:=⟨_,Tryz.underlying170,fun _=>by kernel_rfl⟩
theorem beside_none(a:World)(bw bv r1 r2 bn on n:Nat)(o2:Option Nat)(v:Value)(f:Nat→Value)(g:Nat→List (Option Nat))(Mt St:List Nat)(w:World)(h:WkAt w a.heap.size bw bv r1 bn on n v Mt St)(ht:WtAt w a.heap.size bw r1 r2 bn on v f g)(ho:∀i,o2=some i→i<n)(hx:Ext a w)(hn8:n≤8000):
  Calls Tryz.prog 202 #[.pointer (some ⟨bw,0,none⟩),.pointer none,pv bn on o2] w fun e w'=>e=.returned (.tuple #[])∧∃v' Mt' St',WkAt w' a.heap.size bw bv r1 bn on n v' Mt' St'∧WtAt w' a.heap.size bw r1 r2 bn on v' f g∧Hid (Grow (fun i=>o2=some i) Mt Mt' St St'∧(∀i,o2=some i→i∈Mt'))∧Hid (Ext a w'):=by
 have HW:=hide h;have HT:=hide ht;have HX:=hide hx;clear h ht;go_enter Tryz.func202,Tryz.ntmps202;go_wp2_with fail;refine(meet_opt a.heap.size bw bv r1 bn on n o2 v Mt St _ (unhide HW) ho hx.size hn8).mono ?_;rintro e w1 ⟨rfl,v',M',S',hw,hg,hk⟩;have FIN:=hide (And.intro hw (And.intro ((unhide HT).step hk) (And.intro (unhide hg) ((unhide HW).kext hk hx))));clear hw hg hk;go_wp2_with fail
 try simp only [Exit.inBlock,Exit.then]
 refine bodyPost_ret (results_none rfl _ _ _) rfl ?_;exact⟨rfl,v',M',S',(unhide FIN).1,(unhide FIN).2.1,(unhide FIN).2.2.1,(unhide FIN).2.2.2⟩
theorem beside_in(a:World)(bw bv r1 r2 bn on n k:Nat)(o2:Option Nat)(v:Value)(f:Nat→Value)(g:Nat→List (Option Nat))(Mt St:List Nat)(w:World)(h:WkAt w a.heap.size bw bv r1 bn on n v Mt St)(ht:WtAt w a.heap.size bw r1 r2 bn on v f g)(ho:∀i,o2=some i→i<n)(hx:Ext a w)(hn8:n≤8000)(hm:k∈Mt):
  Calls Tryz.prog 202 #[.pointer (some ⟨bw,0,none⟩),ptr bn (on+k*2),pv bn on o2] w fun e w'=>e=.returned (.tuple #[])∧∃v' Mt' St',WkAt w' a.heap.size bw bv r1 bn on n v' Mt' St'∧WtAt w' a.heap.size bw r1 r2 bn on v' f g∧Hid (Grow (fun i=>o2=some i) Mt Mt' St St'∧(∀i,o2=some i→i∈Mt'))∧Hid (Ext a w'):=by
 have HW:=hide h;have HT:=hide ht;have c1:=h.c1;clear h ht;go_enter Tryz.func202,Tryz.ntmps202;go_wp2_with fail;refine(has_any r1 bn (on+k*2) _ _ (unhide HW).m).mono ?_;rintro e w1 ⟨rfl,hq⟩;have E:decide (on+k*2∈Mt.map (fun i=>on+i*2))=true:=decide_eq_true (mem_off.2 hm);rw[E];clear E;have x1:=hx.trans hq;go_wp2_with fail;refine(meet_opt a.heap.size bw bv r1 bn on n o2 v Mt St _ ((unhide HW).ext hq) ho x1.size hn8).mono ?_;rintro e w2 ⟨rfl,v',M',S',hw,hg,hk⟩;have FIN:=hide (And.intro hw (And.intro (((unhide HT).ext hq).step hk) (And.intro (unhide hg) (((unhide HW).ext hq).kext hk x1))));clear hw hg hk;go_wp2_with fail
 try simp only [Exit.inBlock,Exit.then]
 refine bodyPost_ret (results_none rfl _ _ _) rfl ?_;exact⟨rfl,v',M',S',(unhide FIN).1,(unhide FIN).2.1,(unhide FIN).2.2.1,(unhide FIN).2.2.2⟩
theorem pv_ptr(bn on:Nat)(o:Option Nat):∃q,pv bn on o=.pointer q:=by cases o with | none=>exact⟨_,rfl⟩ | some i=>exact⟨_,rfl⟩
theorem own_drew{w:World}{base n:Nat}{t:TypeId}{v:Value}{xs:List Value}(h:w.ownsRow base t 1 v n xs):w.drew.ownsRow base t 1 v n xs:=ownsRow_of_block h (fun _ _=>rfl)
theorem beside_out(a:World)(bw bv r1 r2 bn on n k:Nat)(o2:Option Nat)(v:Value)(f:Nat→Value)(g:Nat→List (Option Nat))(Mt St:List Nat)(w:World)(h:WkAt w a.heap.size bw bv r1 bn on n v Mt St)(ht:WtAt w a.heap.size bw r1 r2 bn on v f g)(hx:Ext a w)(hg:(g k).length≤10000000)(hm:¬k∈Mt):
  Calls Tryz.prog 202 #[.pointer (some ⟨bw,0,none⟩),ptr bn (on+k*2),pv bn on o2] w fun e w'=>e=.returned (.tuple #[])∧∃f',WkAt w' a.heap.size bw bv r1 bn on n v Mt St∧WtAt w' a.heap.size bw r1 r2 bn on v f' (fun q=>if q=k then g k++[o2] else g q)∧Hid (Ext a w'):=by
 obtain⟨et,hu,hz⟩:=waits_und;obtain⟨i1,hi1,_,hz1,_⟩:=info_parts infoNodes;obtain⟨i0,hi0,hy0,hy1,hy2⟩:=info_parts infoNodeP;have HW:=hide h;have HT:=hide ht;have c1:=h.c1;have c3:=ht.c3;have HU:=hide hu;have HN:=hide hi1;have HZ:=hide hz1;have LK:=hide (fun w' (e:Ext w w')=>(ht.ext e).m.lookup hu node_und hi1 (by rw[hz1];omega) hz k);clear h ht hu hz hi1 hz1;obtain⟨fk,hfk⟩:∃u,u=f k:=⟨_,rfl⟩;obtain⟨pq,hpq⟩:=pv_ptr bn on o2;rw[hpq];have PQ:=hide hpq;clear hpq;go_enter Tryz.func202,Tryz.ntmps202;go_wp2_with fail;refine(has_any r1 bn (on+k*2) _ _ (unhide HW).m).mono ?_;rintro e w1 ⟨rfl,hq⟩;have E:decide (on+k*2∈Mt.map (fun i=>on+i*2))=false:=decide_eq_false (fun q=>hm (mem_off.1 q));rw[E];clear E;have x1:=hx.trans hq;have d3:=hq.keep c3;have lk:=unhide LK w1.drew hq.drew;have lk2:=fun ob=>unhide LK (w1.alloc ob).drew (hq.alloc ob).drew
 have lk3:=fun ob=>unhide LK (w1.drew.alloc ob) (hq.drew.alloc ob)
 rw[←hfk] at lk;simp only [←hfk] at lk2 lk3;have W1:=hide ((unhide HW).ext hq);have T1:=hide ((unhide HT).ext hq);have OW:=hide (show w1.ownsRow a.heap.size 126 1 fk (g k).length ((g k).map (pv bn on)) by rw[hfk];exact(unhide T1).row k);have FK:=hide hfk;have hsz1:=x1.size;have hbw1:bw<w1.heap.size:=(unhide W1).rlt.1;clear hfk hq LK c3;go_wp2_with fail
 go_region_law (refine step_append_lies _ rfl _ _ 130 rfl a.heap.size 126 i0 (.pointer none) 1 8 Tryz.underlying130 hi0 hy0 hy1 hy2 rfl (by decide) fk (g k).length ((g k).map (pv bn on)) (by first | rfl | simp [Act.eval,Act.put]) (by first | exact(unhide OW).alloc _ | exact own_drew ((unhide OW).alloc _) | exact(own_drew (unhide OW)).alloc _) _ 1 1 [.pointer pq] (by first | rfl | simp [Act.eval,Act.put];rfl) rfl (by
   intro j u hj
   match j,hj with
   | 0,hj=>simp at hj;subst hj;simp [Addr.add]) (by intro u hu;simp at hu;subst hu;rfl) (by decide) (by unfold maxLen;omega) (by omega) (by simp;omega) _ rfl ?_;intro gb cap w2 hown hgrow hat hglt;have m2:MapF w2 r2 bn on f:=(unhide T1).m.block ((hgrow.block r2 (by have:=(unhide T1).m.lt;simp;omega) (fun e=>(unhide T1).a3 k (by rw[←unhide FK];exact e.symm))).trans (Below.heap_alloc w1 _ r2 (unhide T1).m.lt));have e3:w2.cell? ⟨bw,3,none⟩=some (Value.map (some r2)):=(World.cell?_of_block (w:=w1) (a:=⟨bw,3,none⟩) ((hgrow.block bw (by have:=(unhide W1).rlt;simp;omega) (fun e=>(unhide T1).a1 k (by rw[←unhide FK];exact e.symm))).trans (Below.heap_alloc w1 _ bw (unhide W1).rlt.1))).trans d3;obtain⟨w3,hUp,m3,hos,htp,hou,hsz,hbl⟩:=m2.update (unhide HU) node_und (unhide HN) (by rw[unhide HZ];omega) k (.slice (some ⟨gb,0,none⟩) ((g k).length+1) cap);have FIN:=hide (WtAt.wait (o:=o2) (W:=(w1.alloc (.cells #[.pointer pq] 126)).drew) (ob:=.cells #[.pointer pq] 126) (unhide W1) (unhide T1) rfl rfl rfl rfl (by rw[unhide PQ];exact hown) (by rw[←unhide FK];exact hgrow) (by rw[←unhide FK];simpa using hat) m3 hos htp hou hsz hbl);clear hown hgrow hat m2 m3 hos htp hou hsz hbl)
 all_goals
  go_wp2_with fail
  go_end0
  exact⟨rfl,_,(unhide FIN).1,(unhide FIN).2.1,(unhide FIN).2.2 a rfl x1⟩
theorem beside_any(a:World)(bw bv r1 r2 bn on n:Nat)(o1 o2:Option Nat)(v:Value)(f:Nat→Value)(g:Nat→List (Option Nat))(Mt St:List Nat)(w:World)(h:WkAt w a.heap.size bw bv r1 bn on n v Mt St)(ht:WtAt w a.heap.size bw r1 r2 bn on v f g)(ho:∀i,o2=some i→i<n)(hx:Ext a w)(hn8:n≤8000)(hg:∀k,(g k).length≤10000000):
  Calls Tryz.prog 202 #[.pointer (some ⟨bw,0,none⟩),pv bn on o1,pv bn on o2] w fun e w'=>e=.returned (.tuple #[])∧∃v' Mt' St' f' g',WkAt w' a.heap.size bw bv r1 bn on n v' Mt' St'∧WtAt w' a.heap.size bw r1 r2 bn on v' f' g'∧Hid (Bes o1 o2 Mt Mt' St St' g g')∧Hid (Ext a w'):=by
 cases o1 with
 | none=>exact(beside_none a bw bv r1 r2 bn on n o2 v f g Mt St w h ht ho hx hn8).mono fun _ _ ⟨he,v',M',S',q1,q2,q3,q4⟩=>⟨he,v',M',S',f,g,q1,q2,.inl ⟨.inl rfl,(unhide q3).1,(unhide q3).2,rfl⟩,q4⟩
 | some k=>
  by_cases hm:k∈Mt
  ·exact(beside_in a bw bv r1 r2 bn on n k o2 v f g Mt St w h ht ho hx hn8 hm).mono fun _ _ ⟨he,v',M',S',q1,q2,q3,q4⟩=>⟨he,v',M',S',f,g,q1,q2,.inl ⟨.inr ⟨k,rfl,hm⟩,(unhide q3).1,(unhide q3).2,rfl⟩,q4⟩
  ·exact(beside_out a bw bv r1 r2 bn on n k o2 v f g Mt St w h ht hx (hg k) hm).mono fun _ _ ⟨he,f',q1,q2,q3⟩=>⟨he,v,Mt,St,f',_,q1,q2,.inr ⟨k,rfl,hm,rfl,rfl,rfl⟩,q3⟩
theorem release_any(a:World)(bw bv r1 r2 bn on n k:Nat)(v:Value)(f:Nat→Value)(g:Nat→List (Option Nat))(Mt St:List Nat)(w:World)(h:WkAt w a.heap.size bw bv r1 bn on n v Mt St)(ht:WtAt w a.heap.size bw r1 r2 bn on v f g)(ho:∀i,some i∈g k→i<n)(hx:Ext a w)(hn8:n≤8000)(hg:(g k).length≤10000000):
  Calls Tryz.prog 124 #[.pointer (some ⟨bw,0,none⟩),ptr bn (on+k*2)] w fun e w'=>e=.returned (.tuple #[])∧∃v' Mt' St',WkAt w' a.heap.size bw bv r1 bn on n v' Mt' St'∧WtAt w' a.heap.size bw r1 r2 bn on v' f g∧Hid (Grow (fun i=>some i∈g k) Mt Mt' St St'∧∀i,some i∈g k→i∈Mt')∧Hid (Ext a w'):=by
 obtain⟨et,hu,hz⟩:=waits_und;obtain⟨i1,hi1,_,hz1,_⟩:=info_parts infoNodes;have HW:=hide h;have HT:=hide ht;have c3:=ht.c3;have lk:=ht.m.lookup hu node_und hi1 (by rw[hz1];omega) hz k;obtain⟨ad,cap,hf,hgb⟩:=ownsRow_form (ht.row k);have FK:=hide hf;rw[hf] at lk;clear h ht hu hz hi1 hz1 hf;go_enter Tryz.func124,Tryz.ntmps124;go_wp2_with fail;go_loopw [13] (fun i wr=>∃(l:Nat) (v':Value) (M S:List Nat),l≤(g k).length∧i=.int .i64 l∧WkAt wr a.heap.size bw bv r1 bn on n v' M S∧WtAt wr a.heap.size bw r1 r2 bn on v' f g∧Hid (Grow (fun i=>some i∈g k) Mt M St S∧∀j i,j<l→(g k)[j]?=some (some i)→i∈M)∧Ext a wr) (fun i _=>(g k).length-(intOf i).toNat)
 case atStart=>exact⟨0,v,Mt,St,Nat.zero_le _,rfl,unhide HW,unhide HT,⟨Grow.refl,fun j i hj=>by omega⟩,hx⟩
 case round=>
  clear HW HT c3 lk hx;obtain⟨l,v',M,S,hl,rfl,hw,htt,hinv,hbl⟩:=hrel;have HW:=hide hw;have HT:=hide htt;by_cases hlt:l<(g k).length
  ·obtain⟨gb,rfl⟩:=hgb (by omega);obtain⟨o,hoo⟩:∃o,(g k)[l]?=some o:=⟨_,List.getElem?_eq_getElem hlt⟩
   have cl:wr.cell? ⟨gb,l,none⟩=some (pv bn on o):=by
    have hr:=htt.row k;rw[unhide FK] at hr;have:=World.ownsRow.cellAt hr l (by omega);rw[this,List.getElem?_map,hoo];rfl
   have hk0:(0:Int)≤(l:Int):=by omega
   have hk1:(l:Int)<((g k).length:Int):=by omega
   have HO:=hide hoo;clear hw htt hoo;go_wp2_with fail;refine(meet_opt a.heap.size bw bv r1 bn on n o v' M S _ (unhide HW) (fun i e=>ho i (by subst e;exact List.mem_of_getElem? (unhide HO))) hbl.size hn8).mono ?_;rintro e w2 ⟨rfl,v2,M2,S2,hw2,hg2,hk2⟩
   have R:=hide (show WkAt w2 a.heap.size bw bv r1 bn on n v2 M2 S2∧WtAt w2 a.heap.size bw r1 r2 bn on v2 f g∧(Grow (fun i=>some i∈g k) Mt M2 St S2∧∀j i,j<l+1→(g k)[j]?=some (some i)→i∈M2)∧Ext a w2 from
    ⟨hw2,(unhide HT).step hk2,⟨(unhide hinv).1.trans ((unhide hg2).1.mono (fun i e=>by subst e;exact List.mem_of_getElem? (unhide HO))),fun j i hj e=>by
     by_cases q:j=l
     ·subst q;rw[unhide HO] at e;cases e;exact(unhide hg2).2 i rfl
     ·exact(unhide hg2).1.m i ((unhide hinv).2 j i (by omega) e)⟩,(unhide HW).kext hk2 hbl⟩)
   clear hw2 hg2 hk2;go_wp2_with fail;go_roundw
   case rel=>exact⟨l+1,v2,M2,S2,by omega,by go_num,(unhide R).1,(unhide R).2.1,(unhide R).2.2.1,(unhide R).2.2.2⟩
   case measure=>simp [intOf];omega
  ·have hl2:l=(g k).length:=by omega
   have R:=hide (show Grow (fun i=>some i∈g k) Mt M St S∧∀i,some i∈g k→i∈M from⟨(unhide hinv).1,fun i hi=>by
    obtain⟨j,hj,e⟩:=List.getElem_of_mem hi;exact(unhide hinv).2 j i (by omega) (by rw[List.getElem?_eq_getElem hj,e])⟩)
   clear hw htt hinv hl2;go_wp2_with fail
   go_end0
   exact⟨rfl,v',M,S,unhide HW,unhide HT,unhide R,hbl⟩
def Pend(Mt St:List Nat)(pre:Option Nat)(k:Nat):Prop:=¬k∈Mt∨k∈St∨pre=some k
def ClsTo(x:Hp)(Mt St:List Nat)(g:Nat→List (Option Nat))(pre:Option Nat)(i l:Nat):Prop:=∀p,p<(x.c i).prs.length→p<l→(SK (x.c i)→((x.c i).p p).key.k=2→tgt x ((x.c i).p p).key∈Mt)∧
 (SV (x.c i)→((x.c i).p p).val.k=2→(((x.c i).p p).key.k≠2→tgt x ((x.c i).p p).val∈Mt)∧(((x.c i).p p).key.k=2→tgt x ((x.c i).p p).val∈Mt∨(some (tgt x ((x.c i).p p).val)∈g (tgt x ((x.c i).p p).key)∧Pend Mt St pre (tgt x ((x.c i).p p).key))))
structure InvH(x:Hp)(Mt St:List Nat)(g:Nat→List (Option Nat))(pre cur:Option Nat):Prop where
 only:∀i,i∈Mt→Held x i
 regs:RegsN x x.regs.length Mt
 due:∀i,i<x.cells.length→(x.c i).last=2→i∈Mt
 wh:∀k i,some i∈g k→Held x k→Held x i
 wl:∀k i,some i∈g k→i<x.cells.length
 part:∀i,i∈Mt→i∈St∨cur=some i∨ClsTo x Mt St g pre i (x.c i).prs.length
theorem Pend.grow{Q:Nat→Prop}{Mt Mt' St St':List Nat}{pre:Option Nat}{k:Nat}(h:Pend Mt St pre k)(G:Grow Q Mt Mt' St St'):Pend Mt' St' pre k:=by
 rcases h with q | q | q
 ·by_cases e:k∈Mt'
  ·rcases G.n k e with r | ⟨_,r⟩
   ·exact(q r).elim
   ·exact .inr (.inl r)
  ·exact .inl e
 ·exact .inr (.inl (G.s k q))
 ·exact .inr (.inr q)
theorem ClsTo.grow{Q:Nat→Prop}{x:Hp}{Mt Mt' St St':List Nat}{g:Nat→List (Option Nat)}{pre:Option Nat}{i l:Nat}(h:ClsTo x Mt St g pre i l)(G:Grow Q Mt Mt' St St'):ClsTo x Mt' St' g pre i l:=fun p h1 h2=>
 ⟨fun a b=>G.m _ ((h p h1 h2).1 a b),fun a b=>⟨fun c=>G.m _ (((h p h1 h2).2 a b).1 c),fun c=>by
  rcases ((h p h1 h2).2 a b).2 c with q | ⟨q,r⟩
  ·exact .inl (G.m _ q)
  ·exact .inr ⟨q,r.grow G⟩⟩⟩
theorem ClsTo.more{x:Hp}{Mt St:List Nat}{g g':Nat→List (Option Nat)}{pre:Option Nat}{i l:Nat}(h:ClsTo x Mt St g pre i l)(hg:∀k o,o∈g k→o∈g' k):ClsTo x Mt St g' pre i l:=fun p h1 h2=>
 ⟨(h p h1 h2).1,fun a b=>⟨((h p h1 h2).2 a b).1,fun c=>by
  rcases ((h p h1 h2).2 a b).2 c with q | ⟨q,r⟩
  ·exact .inl q
  ·exact .inr ⟨hg _ _ q,r⟩⟩⟩
theorem InvH.grow{Q:Nat→Prop}{x:Hp}{Mt Mt' St St':List Nat}{g:Nat→List (Option Nat)}{pre cur:Option Nat}(h:InvH x Mt St g pre cur)(G:Grow Q Mt Mt' St St')(hq:∀i,Q i→Held x i):InvH x Mt' St' g pre cur:=
 ⟨fun i hi=>by
  rcases G.n i hi with q | ⟨q,_⟩
  ·exact h.only i q
  ·exact hq i q,fun j hj hjk e=>G.m _ (h.regs j hj hjk e),fun i hi e=>G.m _ (h.due i hi e),h.wh,h.wl,fun i hi=>by
  rcases G.n i hi with q | ⟨_,q⟩
  ·rcases h.part i q with r | r | r
   ·exact .inl (G.s i r)
   ·exact .inr (.inl r)
   ·exact .inr (.inr (r.grow G))
  ·exact .inl q⟩
theorem add_mem{g:Nat→List (Option Nat)}{k:Nat}{o:Option Nat}{q:Nat}{z:Option Nat}(h:z∈(fun q=>if q=k then g k++[o] else g q) q):z∈g q∨(q=k∧z=o):=by
 by_cases e:q=k
 ·subst e;simp only [if_true,List.mem_append,List.mem_singleton] at h;rcases h with r | r
  ·exact .inl r
  ·exact .inr ⟨rfl,r⟩
 ·simp only [e,if_false] at h;exact .inl h
theorem add_more{g:Nat→List (Option Nat)}{k:Nat}{o:Option Nat}(q:Nat)(z:Option Nat)(h:z∈g q):z∈(fun q=>if q=k then g k++[o] else g q) q:=by
 by_cases e:q=k
 ·subst e;simp only [if_true];exact List.mem_append_left _ h
 ·simp only [e,if_false];exact h
theorem InvH.wait{x:Hp}{Mt St:List Nat}{g:Nat→List (Option Nat)}{pre cur:Option Nat}(h:InvH x Mt St g pre cur)(k:Nat)(o:Option Nat)(h1:∀i,o=some i→Held x k→Held x i)(h2:∀i,o=some i→i<x.cells.length):InvH x Mt St (fun q=>if q=k then g k++[o] else g q) pre cur:=
 ⟨h.only,h.regs,h.due,fun q i hi hk=>by
  rcases add_mem hi with r | ⟨rfl,r⟩
  ·exact h.wh q i r hk
  ·exact h1 i r.symm hk,fun q i hi=>by
  rcases add_mem hi with r | ⟨rfl,r⟩
  ·exact h.wl q i r
  ·exact h2 i r.symm,fun i hi=>by
  rcases h.part i hi with r | r | r
  ·exact .inl r
  ·exact .inr (.inl r)
  ·exact .inr (.inr (r.more add_more))⟩
theorem InvH.shut{x:Hp}{Mt St:List Nat}{g:Nat→List (Option Nat)}{j:Nat}(h:InvH x Mt St g none (some j))(c:ClsTo x Mt St g none j (x.c j).prs.length):InvH x Mt St g none none:=
 ⟨h.only,h.regs,h.due,h.wh,h.wl,fun i hi=>by
  rcases h.part i hi with r | r | r
  ·exact .inl r
  ·cases r;exact .inr (.inr c)
  ·exact .inr (.inr r)⟩
theorem InvH.take{x:Hp}{Mt St:List Nat}{g:Nat→List (Option Nat)}{j:Nat}(h:InvH x Mt (St++[j]) g none none):InvH x Mt St g (some j) (some j):=
 ⟨h.only,h.regs,h.due,h.wh,h.wl,fun i hi=>by
  rcases h.part i hi with r | r | r
  ·rcases List.mem_append.1 r with q | q
   ·exact .inl q
   ·simp at q;exact .inr (.inl (by rw[q]))
  ·cases r
  ·refine .inr (.inr fun p h1 h2=>⟨(r p h1 h2).1,fun a b=>⟨((r p h1 h2).2 a b).1,fun c=>?_⟩⟩);rcases ((r p h1 h2).2 a b).2 c with q | ⟨q,s⟩
   ·exact .inl q
   ·refine .inr ⟨q,?_⟩;rcases s with s | s | s
    ·exact .inl s
    ·rcases List.mem_append.1 s with t | t
     ·exact .inr (.inl t)
     ·simp at t;exact .inr (.inr (by rw[t]))
    ·cases s⟩
theorem InvH.freed{x:Hp}{Mt St:List Nat}{g:Nat→List (Option Nat)}{j:Nat}(h:InvH x Mt St g (some j) (some j))(f:∀i,some i∈g j→i∈Mt):InvH x Mt St g none (some j):=
 ⟨h.only,h.regs,h.due,h.wh,h.wl,fun i hi=>by
  rcases h.part i hi with r | r | r
  ·exact .inl r
  ·exact .inr (.inl r)
  ·refine .inr (.inr fun p h1 h2=>⟨(r p h1 h2).1,fun a b=>⟨((r p h1 h2).2 a b).1,fun c=>?_⟩⟩);rcases ((r p h1 h2).2 a b).2 c with q | ⟨q,s⟩
   ·exact .inl q
   ·rcases s with s | s | s
    ·exact .inr ⟨q,.inl s⟩
    ·exact .inr ⟨q,.inr (.inl s)⟩
    ·cases s;exact .inl (f _ q)⟩
theorem InvH.done{x:Hp}{Mt:List Nat}{g:Nat→List (Option Nat)}(h:InvH x Mt [] g none none)(i:Nat):i∈Mt↔Held x i:=by
 constructor
 ·exact h.only i
 ·intro r
  have cl:∀j,j∈Mt→ClsTo x Mt [] g none j (x.c j).prs.length:=fun j hj=>by
   rcases h.part j hj with q | q | q
   ·cases q
   ·cases q
   ·exact q
  refine r (fun i=>i∈Mt) (fun k hk hk2=>h.regs k hk hk hk2) h.due (fun j p ih hp hs hk=>(cl j ih p hp hp).1 hs hk) (fun j p ih hp hs hh hk=>?_);have c:=(cl j ih p hp hp).2 hs hk;by_cases e:((x.c j).p p).key.k=2
  ·rcases c.2 e with q | ⟨_,s⟩
   ·exact q
   ·rcases s with s | s | s
    ·exact(s (hh e)).elim
    ·cases s
    ·cases s
  ·exact c.1 e
theorem pair_done{x:Hp}{j l:Nat}{M S M2 S2 M3 S3:List Nat}{g g':Nat→List (Option Nat)}{Q Q2:Nat→Prop}(C:ClsTo x M S g none j l)(G1:Grow Q M M2 S S2)(kM:SK (x.c j)→((x.c j).p l).key.k=2→tgt x ((x.c j).p l).key∈M2)
  (V:(¬SV (x.c j)∧M3=M2∧S3=S2∧g'=g)∨Bes (wo x ((x.c j).p l).key) (wo x ((x.c j).p l).val) M2 M3 S2 S3 g g') (G2:Grow Q2 M2 M3 S2 S3):ClsTo x M3 S3 g' none j (l+1):=by
 have hg:∀k o,o∈g k→o∈g' k:=by
  rcases V with⟨_,_,_,e⟩ | ⟨_,_,_,e⟩ | ⟨k,_,_,_,_,e⟩
  ·subst e;exact fun _ _ h=>h
  ·subst e;exact fun _ _ h=>h
  ·subst e;exact add_more
 intro p h1 h2;by_cases e:p=l
 ·subst e;refine⟨fun a b=>G2.m _ (kM a b),fun a b=>?_⟩;have wv:wo x ((x.c j).p p).val=some (tgt x ((x.c j).p p).val):=by unfold wo;rw[if_pos b]
  rcases V with⟨n,_⟩ | ⟨_,_,m,_⟩ | ⟨k,ek,nk,em,_,eg⟩
  ·exact(n a).elim
  ·exact⟨fun _=>m _ wv,fun _=>.inl (m _ wv)⟩
  ·unfold wo at ek
   split at ek
   ·rename_i k2;cases ek;refine⟨fun n=>(n k2).elim,fun _=>.inr ⟨?_,.inl (by rw[em];exact nk)⟩⟩;rw[eg,wv];simp
   ·cases ek
 ·exact(((C.grow G1).grow G2).more hg) p h1 (by omega)
theorem Bes.grow{o1 o2:Option Nat}{M M' S S':List Nat}{g g':Nat→List (Option Nat)}(h:Bes o1 o2 M M' S S' g g'):Grow (fun i=>o2=some i∧(o1=none∨∃k,o1=some k∧k∈M)) M M' S S':=by
 rcases h with⟨a,b,_,_⟩ | ⟨k,_,_,rfl,rfl,_⟩
 ·exact b.mono (fun i e=>⟨e,a⟩)
 ·exact Grow.refl
theorem Bes.len{o1 o2:Option Nat}{M M' S S':List Nat}{g g':Nat→List (Option Nat)}(h:Bes o1 o2 M M' S S' g g')(k:Nat):(g' k).length≤(g k).length+1:=by
 rcases h with⟨_,_,_,e⟩ | ⟨q,_,_,_,_,e⟩
 ·rw[e];omega
 ·rw[e];by_cases z:k=q
  ·subst z;simp
  ·simp [z]
theorem InvH.beside{x:Hp}{j l:Nat}{M2 S2 M3 S3:List Nat}{g g':Nat→List (Option Nat)}(h:InvH x M2 S2 g none (some j))(hj:Held x j)(hl:l<(x.c j).prs.length)(hs:SV (x.c j))(my:MayMark x ((x.c j).p l).val)
  (B:Bes (wo x ((x.c j).p l).key) (wo x ((x.c j).p l).val) M2 M3 S2 S3 g g'):InvH x M3 S3 g' none (some j):=by
 have hv:∀i,wo x ((x.c j).p l).val=some i→(((x.c j).p l).key.k=2→Held x (tgt x ((x.c j).p l).key))→Held x i:=fun i e hh=>by
  obtain⟨_,k,rfl⟩:=wo_lt my i e;exact Held.val j l hj hl hs hh k
 rcases B with⟨a,b,_,e⟩ | ⟨k,ek,_,rfl,rfl,e⟩
 ·rw[e];refine h.grow b (fun i ei=>hv i ei (fun k2=>?_));have wk:wo x ((x.c j).p l).key=some (tgt x ((x.c j).p l).key):=by unfold wo;rw[if_pos k2]
  rcases a with a | ⟨k,a,m⟩
  ·rw[wk] at a;cases a
  ·rw[wk] at a;cases a;exact h.only _ m
 ·rw[e];refine h.wait k _ (fun i ei hk=>hv i ei (fun k2=>?_)) (fun i ei=>(wo_lt my i ei).1);unfold wo at ek;rw[if_pos k2] at ek;cases ek;exact hk
theorem weakKeys_any(bn on bc oc:Nat)(wk:Int)(w:World)(m1:w.cell? ⟨bn,on+1,none⟩=some (.pointer (some ⟨bc,oc,none⟩)))(p2:w.cell? ⟨bc,oc+2,none⟩=some (iv wk)):
  Calls Tryz.prog 200 #[.pointer (some ⟨bn,on,none⟩)] w fun e w'=>e=.returned (.bool (wk == 1 || wk == 3))∧Ext w w':=by
 cases t1:(wk == 1)
 ·cases t3:(wk == 3)
  ·go_enter Tryz.func200,Tryz.ntmps200;go_wp2_with fail;go_ret;exact⟨rfl,Ext.refl _⟩
  ·go_enter Tryz.func200,Tryz.ntmps200;go_wp2_with fail;go_ret;exact⟨rfl,Ext.refl _⟩
 ·go_enter Tryz.func200,Tryz.ntmps200;go_wp2_with fail;go_ret;exact⟨rfl,Ext.refl _⟩
theorem weakVals_any(bn on bc oc:Nat)(wk:Int)(w:World)(m1:w.cell? ⟨bn,on+1,none⟩=some (.pointer (some ⟨bc,oc,none⟩)))(p2:w.cell? ⟨bc,oc+2,none⟩=some (iv wk)):
  Calls Tryz.prog 201 #[.pointer (some ⟨bn,on,none⟩)] w fun e w'=>e=.returned (.bool (wk == 2 || wk == 3))∧Ext w w':=by
 cases t1:(wk == 2)
 ·cases t3:(wk == 3)
  ·go_enter Tryz.func201,Tryz.ntmps201;go_wp2_with fail;go_ret;exact⟨rfl,Ext.refl _⟩
  ·go_enter Tryz.func201,Tryz.ntmps201;go_wp2_with fail;go_ret;exact⟨rfl,Ext.refl _⟩
 ·go_enter Tryz.func201,Tryz.ntmps201;go_wp2_with fail;go_ret;exact⟨rfl,Ext.refl _⟩
def zp(p:Pr):Bool:=p.key.k == 0 && p.key.n == 0 && p.key.a == 0 && p.val.k == 0 && p.val.n == 0 && p.val.a == 0
theorem pair_eq(p:Pr)(w:World):(Op.equalIn 10000 154 (.agg #[iv p.key.k,iv p.key.n,iv p.key.a,iv p.val.k,iv p.val.n,iv p.val.a]) (.agg #[iv 0,iv 0,iv 0,iv 0,iv 0,iv 0])).run Tryz.prog w=.ok (zp p) w:=by
 rw[run_equalIn_struct w 9999 _ _ _ (by kernel_rfl) (by kernel_rfl)];simp [go_sem,zp]
 repeat' split
 all_goals simp_all
theorem pair_eq2(p:Pr)(w:World):(binOp .eql 154 (.agg #[iv p.key.k,iv p.key.n,iv p.key.a,iv p.val.k,iv p.val.n,iv p.val.a]) (.agg #[iv 0,iv 0,iv 0,iv 0,iv 0,iv 0])).run Tryz.prog w=.ok (.bool (zp p)) w:=by
 rw[run_eql_struct,pair_eq];rfl
theorem sk_of{c:Cl}(h:(c.weak == 1 || c.weak == 3)=false):SK c:=by simp at h;exact h
theorem sk_not{c:Cl}(h:(c.weak == 1 || c.weak == 3)=true):¬SK c:=fun k=>by simp at h;unfold SK at k;omega
theorem sv_of{c:Cl}(h:(c.weak == 2 || c.weak == 3)=false):SV c:=by simp at h;exact h
theorem sv_not{c:Cl}(h:(c.weak == 2 || c.weak == 3)=true):¬SV c:=fun k=>by simp at h;unfold SV at k;omega
theorem zp_cls{x:Hp}{M S:List Nat}{g:Nat→List (Option Nat)}{j l:Nat}(h:zp ((x.c j).p l)=true)(C:ClsTo x M S g none j l):ClsTo x M S g none j (l+1):=fun p h1 h2=>by
 by_cases e:p=l
 ·subst e;simp [zp] at h;refine⟨fun _ k=>by omega,fun _ k=>by omega⟩
 ·exact C p h1 (by omega)
theorem hold_any(x:Hp)(a:World)(b bw r1 r2 bn on j:Nat)(v:Value)(f:Nat→Value)(g:Nat→List (Option Nat))(Mt St:List Nat)(w:World){ar:Option Addr}{kr:Nat}{ac:Nat→Option Addr}{kn:Nat}(hv:VNt a b x ar kr ac (some ⟨bn,on,none⟩) kn)(q2:R2 x)(q4:R4 x)(h200:(x.c j).prs.length≤200)(h:WkAt w a.heap.size bw b r1 bn on x.cells.length v Mt St)(ht:WtAt w a.heap.size bw r1 r2 bn on v f g)(hI:InvH x Mt St g none (some j))(hj:j∈Mt)(hx:Ext a w)(hn8:x.cells.length≤8000)(hg:∀k,(g k).length≤9000000):
  Calls Tryz.prog 125 #[.pointer (some ⟨bw,0,none⟩),ptr bn (on+j*2)] w fun e w'=>e=.returned (.tuple #[])∧∃v' Mt' St' f' g',WkAt w' a.heap.size bw b r1 bn on x.cells.length v' Mt' St'∧WtAt w' a.heap.size bw r1 r2 bn on v' f' g'∧Hid (InvH x Mt' St' g' none none∧Grow (fun _=>True) Mt Mt' St St'∧∀k,(g' k).length≤(g k).length+200)∧Hid (Ext a w'):=by
 have hjn:j<x.cells.length:=h.rg j hj;have HJ:=hide (hI.only j hj);have GD:=hide ((hI.only j hj).good q2 q4);obtain⟨bc,oc,ap,kp,e1,C⟩:=hv.H.cell j hjn;obtain⟨bn',on',bc',oc',e2,e3,m0,m1'⟩:=hv.N j hjn;rw[e1] at e3;cases e2;cases e3;have p7:=hx.keep C.p7;have m1:=hx.keep m1';have M1:=hide m1';have P2:=hide C.p2;have lp:=C.lp;have HP:=hide C.P;have HV:=hide hv;have HW:=hide h;have HT:=hide ht;have HI:=hide hI;have Q2:=hide q2;have Q4:=hide q4;clear C m0 m1' h ht hI e1 hv q2 q4;go_enter Tryz.func125,Tryz.ntmps125;go_wp2_with fail;go_loopw [15] (fun i wr=>∃(l:Nat) (u:Value) (M S:List Nat) (f':Nat→Value) (g':Nat→List (Option Nat)),l≤(x.c j).prs.length∧i=.int .i64 l∧WkAt wr a.heap.size bw b r1 bn on x.cells.length u M S∧WtAt wr a.heap.size bw r1 r2 bn on u f' g'∧Hid (InvH x M S g' none (some j)∧ClsTo x M S g' none j l∧Grow (fun _=>True) Mt M St S∧∀k,(g' k).length≤(g k).length+l)∧Ext a wr) (fun i _=>(x.c j).prs.length-(intOf i).toNat)
 case atStart=>exact⟨0,v,Mt,St,f,g,Nat.zero_le _,rfl,unhide HW,unhide HT,⟨unhide HI,(fun p _ h=>by omega),Grow.refl,fun k=>by omega⟩,hx⟩
 case round=>
  clear HW HT HI p7 m1 hx;clear f v;obtain⟨l,u,M,S,f,g',hl,rfl,hw,htt,hinv,hbl⟩:=hrel;have HW:=hide hw;have HT:=hide htt;have c0:=hw.c0;have hbw:bw<wr.heap.size:=hw.rlt.1;by_cases hl2:l<(x.c j).prs.length
  ·obtain⟨b2,o2,rfl,q0,q1,q2,q3,q4,q5⟩:=unhide HP l hl2;have e0:=hbl.keep q0;have e1:=hbl.keep q1;have e2:=hbl.keep q2;have e3:=hbl.keep q3;have e4:=hbl.keep q4;have e5:=hbl.keep q5;have hb2:b2<wr.heap.size:=cell_lt e0;clear q0 q1 q2 q3 q4 q5 hw htt;have hl0:(0:Int)≤(l:Int):=by omega
   have hl1:(l:Int)<((x.c j).prs.length:Int):=by omega
   have xa:=(Ext.refl wr).alloc (.cells #[.int .i64 ((x.c j).p l).key.k,.int .i64 ((x.c j).p l).key.n,.int .i64 ((x.c j).p l).key.a,.int .i64 ((x.c j).p l).val.k,.int .i64 ((x.c j).p l).val.n,.int .i64 ((x.c j).p l).val.a] 154);have MK:=hide (may_pair (unhide Q2) (unhide Q4) j l (unhide GD) hl2);have PE:=fun w=>pair_eq ((x.c j).p l) w
   have PE2:=fun w=>pair_eq2 ((x.c j).p l) w
   cases tz:zp ((x.c j).p l);rotate_left
   ·simp only [tz] at PE PE2;have R:=hide (And.intro ((unhide HW).ext xa) (And.intro ((unhide HT).ext xa) (And.intro (zp_cls tz (unhide hinv).2.1) (hbl.trans xa))));clear tz;go_wp2_with fail;go_roundw
    case rel=>exact⟨l+1,u,M,S,f,g',by omega,by go_num,(unhide R).1,(unhide R).2.1,⟨(unhide hinv).1,(unhide R).2.2.1,(unhide hinv).2.2.1,fun k=>by have:=(unhide hinv).2.2.2 k;omega⟩,(unhide R).2.2.2⟩
    case measure=>simp [intOf];omega
   ·simp only [tz] at PE PE2;clear tz;go_wp2_with fail;go_cut [6] (fun s6 wx=>∃o1,s6=pv bn on o1∧Hid (o1=wo x ((x.c j).p l).key)∧Ext (wr.alloc (.cells #[.int .i64 ((x.c j).p l).key.k,.int .i64 ((x.c j).p l).key.n,.int .i64 ((x.c j).p l).key.a,.int .i64 ((x.c j).p l).val.k,.int .i64 ((x.c j).p l).val.n,.int .i64 ((x.c j).p l).val.a] 154)) wx)
    case first=>
     go_region_with (go_at_call 123;refine(follow_o x ((x.c j).p l).key b _ bn on ((unhide HV).ext (hbl.trans xa).drew) (unhide Q2) (unhide MK).1).mono ?_;rintro e w2 ⟨rfl,hq2⟩)
     all_goals
      go_wp2_with fail;go_meet;exact⟨_,rfl,rfl,Ext.trans ((Ext.refl _).drew) hq2⟩
    case rest=>
    obtain⟨o1,rfl,O1,hq2⟩:=hcut;obtain⟨w2,hw2⟩:∃W,W=wc:=⟨_,rfl⟩;subst hw2;have x2:=xa.trans hq2;have X2:=hbl.trans x2;have v3:w2.cell? ⟨wr.heap.size,3,none⟩=some (.int .i64 ((x.c j).p l).val.k):=hq2.keep (by simp [go_sem]);have v4:w2.cell? ⟨wr.heap.size,4,none⟩=some (.int .i64 ((x.c j).p l).val.n):=hq2.keep (by simp [go_sem]);have v5:w2.cell? ⟨wr.heap.size,5,none⟩=some (.int .i64 ((x.c j).p l).val.a):=hq2.keep (by simp [go_sem]);have W2:=hide ((unhide HW).ext x2);have T2:=hide ((unhide HT).ext x2);have c0:=(unhide W2).c0;clear PE PE2 e0 e1 e2 e3 e4 e5 hq2;go_wp2_with fail;refine(weakKeys_any bn (on+j*2) bc oc (x.c j).weak _ (X2.keep (unhide M1)) (X2.keep (unhide P2))).mono ?_;rintro e w3 ⟨rfl,hq3⟩;cases tk:((x.c j).weak == 1 || (x.c j).weak == 3)
    ·have hsep:wr.heap.size<w3.heap.size:=Nat.lt_of_lt_of_le (cell_lt v3) hq3.size;have X3:=X2.trans hq3;go_wp2_with fail;refine(meet_opt a.heap.size bw b r1 bn on x.cells.length o1 u M S _ ((unhide W2).ext hq3) (fun i e=>(wo_lt (unhide MK).1 i (by rw[←unhide O1];exact e)).1) X3.size hn8).mono ?_;rintro e w4 ⟨rfl,u4,M4,S4,hw4,hg4,hk4⟩;have kb:=hk4.block wr.heap.size hsep (by have:=(unhide HW).rlt;omega) (by have:=(unhide HW).rlt;omega) (fun e=>by have:=((unhide HW).s.lt _ e).2;omega);have y3:=(World.cell?_of_block (a:=⟨wr.heap.size,3,none⟩) kb).trans (hq3.keep v3);have y4:=(World.cell?_of_block (a:=⟨wr.heap.size,4,none⟩) kb).trans (hq3.keep v4);have y5:=(World.cell?_of_block (a:=⟨wr.heap.size,5,none⟩) kb).trans (hq3.keep v5);have X4:=((unhide W2).ext hq3).kext hk4 X3;have W4:=hide hw4;have T4:=hide (((unhide T2).ext hq3).step hk4);have G4:=hide (unhide hg4).1
     have I4:=hide ((unhide hinv).1.grow (unhide hg4).1 (fun i e=>by
      obtain⟨_,k,rfl⟩:=wo_lt (unhide MK).1 i (by rw[←unhide O1];exact e);exact Held.key j l (unhide HJ) hl2 (sk_of tk) k))
     have K4:=hide (show SK (x.c j)→((x.c j).p l).key.k=2→tgt x ((x.c j).p l).key∈M4 from fun _ k=>(unhide hg4).2 _ (by rw[unhide O1];unfold wo;rw[if_pos k]));clear hw4 hg4 hk4 kb v3 v4 v5 hsep;go_wp2_with fail;refine(weakVals_any bn (on+j*2) bc oc (x.c j).weak _ (X4.keep (unhide M1)) (X4.keep (unhide P2))).mono ?_;rintro e w5 ⟨rfl,hq5⟩;have X5:=X4.trans hq5;cases tv:((x.c j).weak == 2 || (x.c j).weak == 3)
     ·have z3:=hq5.keep y3;have z4:=hq5.keep y4;have z5:=hq5.keep y5;have d0:=hq5.keep (unhide W4).c0;clear y3 y4 y5;go_wp2_with fail
      go_region_with (first
       | (go_at_call 123;refine(follow_o x ((x.c j).p l).val b _ bn on ((unhide HV).ext X5.drew) (unhide Q2) (unhide MK).2).mono ?_;rintro e w6 ⟨rfl,hq6⟩;have X6:=X5.drew.trans hq6;have Y6:=Ext.trans ((Ext.refl w5).drew) hq6;obtain⟨o2,ho2⟩:∃o,o=wo x ((x.c j).p l).val:=⟨_,rfl⟩;rw[←ho2];have O2:=hide ho2;clear ho2 hq6)
       | (go_at_call 202;refine(beside_any a bw b r1 r2 bn on x.cells.length o1 o2 u4 f g' M4 S4 _ (((unhide W4).ext hq5).ext Y6) (((unhide T4).ext hq5).ext Y6) (fun i e=>(wo_lt (unhide MK).2 i (by rw[←unhide O2];exact e)).1) X6 hn8 (fun k=>by have:=(unhide hinv).2.2.2 k;have:=hg k;omega)).mono ?_;rintro e w7 ⟨rfl,u7,M7,S7,f7,g7,hw7,ht7,hb7,hx7⟩;have B7:=hide (show Bes (wo x ((x.c j).p l).key) (wo x ((x.c j).p l).val) M4 M7 S4 S7 g' g7 by rw[←unhide O1,←unhide O2];exact unhide hb7);have R:=hide (show WkAt w7 a.heap.size bw b r1 bn on x.cells.length u7 M7 S7∧WtAt w7 a.heap.size bw r1 r2 bn on u7 f7 g7∧(InvH x M7 S7 g7 none (some j)∧ClsTo x M7 S7 g7 none j (l+1)∧Grow (fun _=>True) Mt M7 St S7∧∀k,(g7 k).length≤(g k).length+(l+1))∧Ext a w7 from⟨hw7,ht7,⟨(unhide I4).beside (unhide HJ) hl2 (sv_of tv) (unhide MK).2 (unhide B7),pair_done (unhide hinv).2.1 (unhide G4) (unhide K4) (.inr (unhide B7)) (unhide B7).grow,((unhide hinv).2.2.1.trans ((unhide G4).mono (fun _ _=>trivial))).trans ((unhide B7).grow.mono (fun _ _=>trivial)),fun k=>by have:=(unhide B7).len k;have:=(unhide hinv).2.2.2 k;omega⟩,unhide hx7⟩);clear hw7 ht7 hb7 hx7 B7))
      all_goals
       go_wp2_with fail;go_roundw
       case rel=>exact⟨l+1,u7,M7,S7,f7,g7,by omega,by go_num,(unhide R).1,(unhide R).2.1,(unhide R).2.2.1,(unhide R).2.2.2⟩
       case measure=>simp [intOf];omega
     ·have R:=hide (show WkAt w5 a.heap.size bw b r1 bn on x.cells.length u4 M4 S4∧WtAt w5 a.heap.size bw r1 r2 bn on u4 f g'∧(InvH x M4 S4 g' none (some j)∧ClsTo x M4 S4 g' none j (l+1)∧Grow (fun _=>True) Mt M4 St S4∧∀k,(g' k).length≤(g k).length+(l+1))∧Ext a w5 from
       ⟨(unhide W4).ext hq5,(unhide T4).ext hq5,⟨unhide I4,pair_done (unhide hinv).2.1 (unhide G4) (unhide K4) (.inl ⟨sv_not tv,rfl,rfl,rfl⟩) (Grow.refl (Q:=fun _=>True)),(unhide hinv).2.2.1.trans ((unhide G4).mono (fun _ _=>trivial)),fun k=>by have:=(unhide hinv).2.2.2 k;omega⟩,X5⟩)
      clear y3 y4 y5;go_wp2_with fail;go_roundw
      case rel=>exact⟨l+1,u4,M4,S4,f,g',by omega,by go_num,(unhide R).1,(unhide R).2.1,(unhide R).2.2.1,(unhide R).2.2.2⟩
      case measure=>simp [intOf];omega
    ·have X4:=X2.trans hq3;have y3:=hq3.keep v3;have y4:=hq3.keep v4;have y5:=hq3.keep v5;have W4:=hide ((unhide W2).ext hq3);have T4:=hide ((unhide T2).ext hq3);have G4:=hide (show Grow (fun i=>o1=some i) M M S S from Grow.refl);have I4:=hide (unhide hinv).1;have K4:=hide (show SK (x.c j)→((x.c j).p l).key.k=2→tgt x ((x.c j).p l).key∈M from fun s _=>(sk_not tk s).elim);clear v3 v4 v5;go_wp2_with fail;refine(weakVals_any bn (on+j*2) bc oc (x.c j).weak _ (X4.keep (unhide M1)) (X4.keep (unhide P2))).mono ?_;rintro e w5 ⟨rfl,hq5⟩;have X5:=X4.trans hq5;cases tv:((x.c j).weak == 2 || (x.c j).weak == 3)
     ·have z3:=hq5.keep y3;have z4:=hq5.keep y4;have z5:=hq5.keep y5;have d0:=hq5.keep (unhide W4).c0;clear y3 y4 y5;go_wp2_with fail
      go_region_with (first
       | (go_at_call 123;refine(follow_o x ((x.c j).p l).val b _ bn on ((unhide HV).ext X5.drew) (unhide Q2) (unhide MK).2).mono ?_;rintro e w6 ⟨rfl,hq6⟩;have X6:=X5.drew.trans hq6;have Y6:=Ext.trans ((Ext.refl w5).drew) hq6;obtain⟨o2,ho2⟩:∃o,o=wo x ((x.c j).p l).val:=⟨_,rfl⟩;rw[←ho2];have O2:=hide ho2;clear ho2 hq6)
       | (go_at_call 202;refine(beside_any a bw b r1 r2 bn on x.cells.length o1 o2 u f g' M S _ (((unhide W4).ext hq5).ext Y6) (((unhide T4).ext hq5).ext Y6) (fun i e=>(wo_lt (unhide MK).2 i (by rw[←unhide O2];exact e)).1) X6 hn8 (fun k=>by have:=(unhide hinv).2.2.2 k;have:=hg k;omega)).mono ?_;rintro e w7 ⟨rfl,u7,M7,S7,f7,g7,hw7,ht7,hb7,hx7⟩;have B7:=hide (show Bes (wo x ((x.c j).p l).key) (wo x ((x.c j).p l).val) M M7 S S7 g' g7 by rw[←unhide O1,←unhide O2];exact unhide hb7);have R:=hide (show WkAt w7 a.heap.size bw b r1 bn on x.cells.length u7 M7 S7∧WtAt w7 a.heap.size bw r1 r2 bn on u7 f7 g7∧(InvH x M7 S7 g7 none (some j)∧ClsTo x M7 S7 g7 none j (l+1)∧Grow (fun _=>True) Mt M7 St S7∧∀k,(g7 k).length≤(g k).length+(l+1))∧Ext a w7 from⟨hw7,ht7,⟨(unhide I4).beside (unhide HJ) hl2 (sv_of tv) (unhide MK).2 (unhide B7),pair_done (unhide hinv).2.1 (unhide G4) (unhide K4) (.inr (unhide B7)) (unhide B7).grow,((unhide hinv).2.2.1.trans ((unhide G4).mono (fun _ _=>trivial))).trans ((unhide B7).grow.mono (fun _ _=>trivial)),fun k=>by have:=(unhide B7).len k;have:=(unhide hinv).2.2.2 k;omega⟩,unhide hx7⟩);clear hw7 ht7 hb7 hx7 B7))
      all_goals
       go_wp2_with fail;go_roundw
       case rel=>exact⟨l+1,u7,M7,S7,f7,g7,by omega,by go_num,(unhide R).1,(unhide R).2.1,(unhide R).2.2.1,(unhide R).2.2.2⟩
       case measure=>simp [intOf];omega
     ·have R:=hide (show WkAt w5 a.heap.size bw b r1 bn on x.cells.length u M S∧WtAt w5 a.heap.size bw r1 r2 bn on u f g'∧(InvH x M S g' none (some j)∧ClsTo x M S g' none j (l+1)∧Grow (fun _=>True) Mt M St S∧∀k,(g' k).length≤(g k).length+(l+1))∧Ext a w5 from
       ⟨(unhide W4).ext hq5,(unhide T4).ext hq5,⟨unhide I4,pair_done (unhide hinv).2.1 (unhide G4) (unhide K4) (.inl ⟨sv_not tv,rfl,rfl,rfl⟩) (Grow.refl (Q:=fun _=>True)),(unhide hinv).2.2.1.trans ((unhide G4).mono (fun _ _=>trivial)),fun k=>by have:=(unhide hinv).2.2.2 k;omega⟩,X5⟩)
      clear y3 y4 y5;go_wp2_with fail;go_roundw
      case rel=>exact⟨l+1,u,M,S,f,g',by omega,by go_num,(unhide R).1,(unhide R).2.1,(unhide R).2.2.1,(unhide R).2.2.2⟩
      case measure=>simp [intOf];omega
  ·have hl3:l=(x.c j).prs.length:=by omega
   have R:=hide (And.intro ((unhide hinv).1.shut (by have:=(unhide hinv).2.1;rw[hl3] at this;exact this)) (And.intro (unhide hinv).2.2.1 (show ∀k,(g' k).length≤(g k).length+200 from fun k=>by have:=(unhide hinv).2.2.2 k;omega)));clear hw htt hl3 hinv;go_wp2_with fail
   go_end0
   exact⟨rfl,u,M,S,f,g',unhide HW,unhide HT,unhide R,hbl⟩
structure Thin(x z:Hp):Prop where
 hl:z.cells.length=x.cells.length
 rest:RestH z x
 c:∀q,(z.c q).st=(x.c q).st∧(z.c q).kind=(x.c q).kind∧(z.c q).born=(x.c q).born∧(z.c q).color=(x.c q).color∧(z.c q).to=(x.c q).to
 wk:∀q,(z.c q).weak=(x.c q).weak∨((x.c q).st=1∧0≤(z.c q).weak∧(z.c q).weak≤3)
 la:∀q,(z.c q).last=(x.c q).last∨((x.c q).st=1∧0≤(z.c q).last∧(z.c q).last≤3)
 sp:∀q,Speaks (z.c q)→Speaks (x.c q)
 p:∀q,q<x.cells.length→∀k,k<(z.c q).prs.length→∃j,j<(x.c q).prs.length∧(z.c q).p k=(x.c q).p j∧(scanI x=(q:Int)→((k:Int)<z.sub↔(j:Int)<x.sub))
 le:∀q,q<x.cells.length→(z.c q).prs.length≤(x.c q).prs.length
 us:z.used=(units z.cells:Nat)
 ul:z.used≤x.used
 s0:0≤z.sub∧z.sub≤x.sub
 s1:∀q,q<x.cells.length→scanI x=(q:Int)→z.sub≤(z.c q).prs.length
theorem scan_hand{x:Hp}(hp:x.phase=5)(h:x.hand<x.cells.length):scanI x=x.hand:=by
 unfold scanI;rw[if_neg (by omega),if_pos ⟨hp,h⟩]
theorem scan_gray{x:Hp}(hp:x.phase=2)(h:0<x.gray.length):scanI x=x.gray.getD 0 0:=by
 unfold scanI;rw[if_pos ⟨hp,h⟩]
theorem Snd.thin{x z:Hp}(h:Snd x)(t:Thin x z):Snd z:=by
 obtain⟨e1,e2,e3,e4,e5,e6,e7,e8,e9,e10⟩:=t.rest;have dm:∀q,Doomed z q↔Doomed x q:=fun q=>by unfold Doomed;rw[e4,e5,(t.c q).1,(t.c q).2.2.2.1]
 have ld:∀(y:Wd) (m m':Prop),(m→m')→Leads x y m→Leads z y m':=fun y m m' hm l=>⟨by rw[t.hl];exact l.1,fun hk=>by
  rw[(t.c _).1,dm];rcases l.2 hk with o | o
  ·exact .inl ⟨o.1,hm o.2⟩
  ·exact .inr o⟩
 have wh:∀y:Wd,White z y→White x y:=fun y hy=>⟨hy.1,by rw[←(t.c _).2.2.2.1];exact hy.2⟩
 have mk:Marking z↔Marking x:=by unfold Marking;rw[e4]
 have s0:=t.s0
 have g0r:x.gray.length≠0→0≤x.gray.getD 0 0∧x.gray.getD 0 0<x.cells.length:=fun hg=>by
  refine h.r5.2.2 _ ?_;cases hgr:x.gray with
  | nil=>rw[hgr] at hg;simp at hg
  | cons g G=>simp
 refine⟨?_,⟨fun q hq=>?_,fun q hq h0 k hk=>?_⟩,⟨t.us,?_⟩,⟨fun i hi=>?_,fun q hq=>⟨fun d=>?_,fun k hk=>?_⟩⟩,⟨fun hm=>?_,fun q hq=>?_,fun g hg=>?_⟩,⟨fun hp=>?_,fun hp=>?_,fun hp=>?_,fun hp=>?_⟩,fun hm q hq=>⟨fun hb=>?_,fun k hk=>?_⟩,fun q hq=>?_⟩
 ·have r:=h.r1;exact⟨by rw[e1];exact r.room,by rw[e3];exact r.regs,by rw[t.hl,e1];exact r.cells,by rw[e6,t.hl];exact r.gray,by rw[e2];exact r.born,by rw[e9];exact r.rounds,by rw[e10];exact r.forced,by rw[e7];exact r.per,by rw[e8];exact r.start,by rw[e4];exact r.phase,by rw[e5,t.hl];exact r.hand,by have:=r.sub;omega⟩
 ·rw[t.hl] at hq;have ok:=h.r2.1 q hq;obtain⟨c1,c2,c3,c4,c5⟩:=t.c q;have l:=t.le q hq;have wk:=t.wk q;have la:=t.la q;unfold CellOk;rcases ok with⟨o,b,d⟩ | ⟨o,m⟩ | ⟨o,m⟩
  ·refine .inl ⟨by rw[c1];exact o,?_,by rw[c5];exact d⟩;unfold Bare at b ⊢;omega
  ·refine .inr (.inl ⟨by rw[c1];exact o,?_,by rw[e4];exact m.2.1,by rw[c5];exact m.2.2.1,by rw[c5];exact m.2.2.2.1,by rw[c5,(t.c _).1];exact m.2.2.2.2.1,fun hp k hk=>?_⟩)
   ·have b:=m.1;unfold Bare at b ⊢;omega
   ·rw[(t.c k).1];rw[e4] at hp;rw[c5] at hk;exact m.2.2.2.2.2 hp k hk
  ·refine .inr (.inr ⟨by rw[c1];exact o,?_⟩);unfold UsedOk at m ⊢;rw[e2];omega
 ·rw[t.hl] at hq;rw[(t.c q).1] at h0;rw[(t.c k).1,(t.c k).2.2.1,(t.c k).2.2.2.2,(t.c q).1,(t.c q).2.2.1,(t.c q).2.2.2.2];exact h.r2.2 q hq h0 k hk
 ·rw[e1];have:=h.r3.2;have:=t.ul;omega
 ·have e:z.regs[i]=x.regs[i]'(by rw[←e3];exact hi):=by simp only [e3]
  rw[e];exact ld _ _ _ id (h.r4.1 i (by rw[←e3];exact hi))
 ·rw[t.hl] at hq;exact(h.r4.2 q hq).1 ⟨(dm q).1 d.1,t.sp q d.2⟩
 ·rw[t.hl] at hq;obtain⟨j,hj,ej,hs⟩:=t.p q hq k hk;have ok:=(h.r4.2 q hq).2 j hj;rw[ej]
  have me:Mended z q k→Mended x q j:=fun m=>⟨by rw[←e4];exact m.1,fun hp=>by
   have:=m.2 (by rw[e4];exact hp);rw[e5] at this;rcases this with a | ⟨a,b⟩
   ·exact .inl a
   ·exact .inr ⟨a,(hs (by rw[scan_hand hp (by omega)];exact a.symm)).1 b⟩⟩
  refine⟨fun d=>?_,fun d=>?_⟩
  ·rw[t.hl];exact ok.1 ((dm q).1 d)
  ·have:=ok.2 (fun d2=>d ((dm q).2 d2));exact⟨ld _ _ _ (fun a b=>a (me b)) this.1,ld _ _ _ (fun a b=>a (me b)) this.2⟩
 ·rw[e6];exact h.r5.1 (fun m=>hm (mk.2 m))
 ·rw[t.hl] at hq;have o:=h.r5.2.1 q hq;unfold ColorOk at o ⊢;rw[(t.c q).2.2.2.1,e6,mk,e4,e5];exact o
 ·rw[e6] at hg;rw[t.hl];exact h.r5.2.2 g hg
 ·rw[e4] at hp;have:=h.r6.1 hp;rw[e5];omega
 ·rw[e4] at hp;have r:=h.r6.2.1 hp;rw[e5,e6];refine⟨r.1,fun hg=>by have:=r.2.1 hg;omega,fun hg=>?_⟩;have gr:=g0r hg;have e:z.g0=x.g0:=by unfold Hp.g0;rw[e6]
  rw[e];refine t.s1 x.g0 (by unfold Hp.g0;omega) ?_;rw[scan_gray hp (by omega)];unfold Hp.g0;omega
 ·rw[e4] at hp;have r:=h.r6.2.2.1 hp;have hh:=h.r1.hand;rw[e5,t.hl];refine⟨fun hq=>?_,fun hq=>?_⟩
  ·rw[(t.c _).1] at hq;have:=r.1 hq;omega
  ·refine t.s1 _ (by omega) ?_;rw[scan_hand hp (by omega)];omega
 ·rw[e4] at hp;have:=h.r6.2.2.2 hp;omega
 ·rw[t.hl] at hq;refine(h.r7 (mk.1 hm) q hq).1 ⟨t.sp q hb.1,by rw[←(t.c q).2.2.2.1];exact hb.2.1,?_⟩;have:=hb.2.2;rw[e4,e5] at this;exact this
 ·rw[t.hl] at hq;have o:=(h.r7 (mk.1 hm) q hq).2
  have key:k<(z.c q).prs.length∧∀j:Nat,(scanI x=(q:Int)→((k:Int)<z.sub↔(j:Int)<x.sub))→j<(x.c q).prs.length→j<looked x q:=by
   unfold looked at hk;rw[(t.c q).2.2.2.1,e4,e6] at hk
   split at hk
   ·rename_i hc;refine⟨hk,fun j _ hj=>?_⟩;unfold looked;rw[if_pos hc];exact hj
   ·rename_i hc
    split at hk
    ·rename_i hd;have sc:scanI x=(q:Int):=by rw[scan_gray hd.1 (by omega)];exact hd.2.2
     have:=t.s1 q hq sc;refine⟨by omega,fun j hs _=>?_⟩;unfold looked;rw[if_neg hc,if_pos hd];have:=(hs sc).1 (by omega);omega
    ·omega
  obtain⟨j,hj,ej,hs⟩:=t.p q hq k key.1;rw[ej];have:=o j (key.2 j hs hj);exact⟨fun w=>this.1 (wh _ w),fun w=>this.2 (wh _ w)⟩
 ·rw[t.hl] at hq;rw[e4,e5,(t.c q).1];exact h.r8 q hq
end Go.Proofs.YtddkhnclmeikfaaGreat
