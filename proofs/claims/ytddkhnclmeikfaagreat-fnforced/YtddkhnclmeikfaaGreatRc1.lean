import Derived.Test.YtddkhnclmeikfaaGreatGg0
import Derived.Test.YtddkhnclmeikfaaGreatGw
import Derived.Test.YtddkhnclmeikfaaGreatImpP
import Derived.Deep.DeepCutAuto
import Derived.Laws.EntriesVeiled
import Derived.OwnWalk
set_option maxRecDepth 100000
set_option maxHeartbeats 4000000
namespace Go.Proofs.YtddkhnclmeikfaaGreat
open Go.RowKit
attribute [local go_sem ↓] Go.wp_at_zero Go.wp_at_succ
theorem OkIs.r2{x:Hp}(h:OkIs x 0):R2 x:=by
 unfold OkIs at h;rcases h with h | h | h | h | h | h | h | h | h
 ·omega
 ·omega
 ·omega
 ·omega
 ·omega
 ·omega
 ·omega
 ·omega
 ·exact h.2.1
theorem follow_none(y:Wd)(b:Nat)(w:World)(k2:(y.k == 2)=false):
  Calls Tryz.prog 123 #[.pointer (some ⟨b,0,none⟩),y.v] w fun e w'=>e=.returned (.pointer none)∧Ext w w':=by
 go_enter Tryz.func123,Tryz.ntmps123;go_wp2_with fail;refine(find_none y b _ k2).mono ?_;rintro e w1 ⟨rfl,hq⟩;go_wp2_with fail;go_ret;exact⟨rfl,Ext.trans ((Ext.refl w).alloc _) hq⟩
def lead(x:Hp)(i:Nat):Nat:=if ((x.c i).st == 2)=true then (x.c i).to.toNat else i
theorem infoInt:(Tryz.prog.info? 3).map (fun i=>(i.zero,i.size,i.bytes))=some (some (.int .i64 0),1,8):=by kernel_rfl
theorem put_world{w w1:World}{base bq oq g cap:Nat}{v:Value}{L:List Int}{x:Int}{o:Obj}(h:LsAt w base bq oq v L)
  (hown:w1.ownsRow base 3 1 (.slice (some ⟨g,0,none⟩) (L.length+1) cap) (L.length+1) (L.map iv++[iv x])) (hg:(w.alloc o).grownBy w1 v.ownBlock) (hat:v.ownBlock=some g∨g=w.heap.size+1) :
  LsAt (w1.setCell ⟨bq,oq,none⟩ (.slice (some ⟨g,0,none⟩) (L.length+1) cap)) base bq oq (.slice (some ⟨g,0,none⟩) (L.length+1) cap) (L++[x])∧
  QFr bq oq v (.slice (some ⟨g,0,none⟩) (L.length+1) cap) w (w1.setCell ⟨bq,oq,none⟩ (.slice (some ⟨g,0,none⟩) (L.length+1) cap))∧w1.cell? ⟨bq,oq,none⟩=some v∧w1.frozen? ⟨bq,oq,none⟩=false:=by
 have hlt:=h.hlt
 have hne:g≠bq:=by
  rcases hat with e | e
  ·intro q;exact h.apart (q ▸ e)
  ·omega
 have hs1:w.heap.size+1≤w1.heap.size:=by have:=hg.size;simpa using this
 have hb:∀k,k<w.heap.size→v.ownBlock≠some k→w1.heap[k]?=w.heap[k]?:=fun k hk hv=>
  (hg.block k (by simp;omega) (fun e=>hv e.symm)).trans (Below.heap_alloc w o k hk)
 have hbq:w1.heap[bq]?=w.heap[bq]?:=hb bq hlt h.apart;have hc:w1.cell? ⟨bq,oq,none⟩=some v:=(World.cell?_of_block (a:=⟨bq,oq,none⟩) hbq).trans h.hd;have hf:w1.frozen? ⟨bq,oq,none⟩=false:=(World.frozen?_of_block (a:=⟨bq,oq,none⟩) hbq).trans h.hf;refine⟨⟨World.cell?_setCell_same _ _ _ hc,by rw[World.frozen?_setCell];exact hf,?_,fun e=>hne (by simpa [Value.ownBlock] using e)⟩,⟨?_,?_,?_,?_,fun k hk h1 h2=>?_,fun o' ho=>?_,fun o'=>?_,?_⟩,hc,hf⟩
 ·refine ownsRow_of_block (by simpa using hown) (fun k hk=>Below.heap_setCell _ _ _ _ ?_);simp [Value.ownBlock] at hk;show k≠bq;omega
 ·exact hg.os
 ·exact hg.tape
 ·exact hg.output
 ·have:(w1.setCell ⟨bq,oq,none⟩ (.slice (some ⟨g,0,none⟩) (L.length+1) cap)).heap.size=w1.heap.size:=by simp [World.setCell]
  omega
 ·rw[Below.heap_setCell _ _ _ _ (show k≠bq from h1)];exact hb k hk h2
 ·rw[cell_other _ (.inr (fun e=>ho e.symm))];exact World.cell?_of_block (a:=⟨bq,o',none⟩) hbq
 ·rw[World.frozen?_setCell];exact World.frozen?_of_block (a:=⟨bq,o',none⟩) hbq
 ·rcases hat with e | e
  ·exact .inl e.symm
  ·exact .inr ⟨g,rfl,by omega⟩
theorem put_ls(w:World)(base bq oq:Nat)(v:Value)(L:List Int)(x:Int)(h:LsAt w base bq oq v L)(hb:base≤w.heap.size)(ho:Ho L)(hn:L.length≤1000000000):
  Calls Tryz.prog 107 #[.pointer (some ⟨bq,oq,none⟩),.int .i64 x] w fun e w'=>e=.returned (.tuple #[])∧∃v' L',LsAt w' base bq oq v' L'∧Ho L'∧L'.Perm (x::L)∧QFr bq oq v v' w w':=by
 obtain⟨i0,hi,hz0,hz1,hz2⟩:=info_parts infoInt;have hd:=h.hd;have hf:=h.hf;have hlt:=h.hlt;have HL:=hide h;have HO:=hide (Rise.start ho x);clear h ho;go_enter Tryz.func107,Tryz.ntmps107;go_wp2_with (at_builtin;refine wpList_append_lies _ rfl _ _ 32 rfl base 3 i0 (.int .i64 0) 1 8 Tryz.underlying32 hi hz0 hz1 hz2 rfl (by decide) v L.length (L.map iv) rfl ((unhide HL).own.alloc _) ⟨w.heap.size,0,none⟩ 1 1 [.int .i64 x] rfl rfl ?c1 ?c2 (by decide) ?c3 ?c4 ?c5 (w.heap.size+1) (by simp) ?_)
 case c1=>
  intro j u hj
  match j,hj with
  | 0,hj=>simp at hj;subst hj;simp [Addr.add]
 case c2=>intro u hu;simp at hu;subst hu;rfl
 case c3=>unfold maxLen;omega
 case c4=>omega
 case c5=>simp;omega
 intro g cap w1 hown hgrow hat hglt;obtain⟨P1,P2,P3,P4⟩:=put_world (unhide HL) hown hgrow hat;have Q1:=hide P1;have Q2:=hide P2;clear hown hgrow hat P1 P2 hd hf;go_wp2_with fail;go_loopw [4] (fun si wr=>∃(a:Nat) (M:List Int),a<M.length∧si=.int .i64 a∧M.length=L.length+1∧LsAt wr base bq oq (.slice (some ⟨g,0,none⟩) (L.length+1) cap) M∧Rise M a∧M.Perm (x::L)∧QFr bq oq v (.slice (some ⟨g,0,none⟩) (L.length+1) cap) w wr) (fun si _=>(intOf si).toNat)
 case atStart=>exact⟨L.length,L++[x],by simp,by go_num,by simp,unhide Q1,unhide HO,List.perm_append_singleton _ _,unhide Q2⟩
 case round=>
  clear HO HL P3 P4 Q1 Q2;obtain⟨a,M,ha,rfl,hM,hls,hr,hp,hq⟩:=hrel;have HLS:=hide hls;have HR:=hide hr;have HP:=hide hp;have HQ:=hide hq;have hd:=hls.hd;obtain⟨xa,hxa⟩:∃z,it M a=z:=⟨_,rfl⟩;have ca:=hls.cell a ha;rw[hxa] at ca;by_cases h0:0<a
  ·obtain⟨u,hu⟩:∃u,u=(a-1) / 2:=⟨_,rfl⟩;have hum:u<M.length:=by omega
   obtain⟨xu,hxu⟩:∃z,it M u=z:=⟨_,rfl⟩;have cu:=hls.cell u hum;rw[hxu] at cu
   have hq2:((a:Int)-1).tdiv 2=(u:Int):=by
    rw[Int.tdiv_eq_ediv_of_nonneg (by omega)];omega
   have i0:(0:Int)<(a:Int):=by omega
   have i1:(0:Int)≤(a:Int):=by omega
   have i2:(a:Int)<(L.length:Int)+1:=by omega
   have i3:(0:Int)≤(u:Int):=by omega
   have i4:(u:Int)<(L.length:Int)+1:=by omega
   have hua:u<a:=by omega
   have HU:=hide hu;clear hls hr hp hq hu;by_cases hc:xu≤xa
   ·have Y:=hide (Rise.done (unhide HR) (by rw[←unhide HU,hxu,hxa];exact hc));go_wp2_with fail;go_quiet (fail);go_wp2_with fail
    try simp only [Exit.inBlock,Exit.then]
    refine bodyPost_ret (results_none rfl _ _ _) rfl ?_;exact⟨rfl,_,M,(unhide HLS).ext ((Ext.refl _).drewN _),unhide Y,unhide HP,(unhide HQ).drewN _⟩
   ·have hc2:decide (xu≤xa)=false:=decide_eq_false hc;have hc3:xa<xu:=by omega
    have R2:=hide (Rise.up (unhide HR) h0 ha (unhide HU) (by rw[hxu,hxa];exact hc3));clear hc hc3;go_wp2_with fail;go_quiet (fail);go_wp2_with fail;refine(swap_ls _ base bq oq g (L.length+1) cap u a M ((unhide HLS).ext ((Ext.refl _).drewN _)) (by omega) (by omega)).mono ?_;rintro e w2 ⟨rfl,ls2,q2⟩;have LS2:=hide ls2;have QF2:=hide (((unhide HQ).drewN _).trans q2);clear ls2 q2;go_wp2_with fail;go_roundw
    case rel=>exact⟨u,swp M u a,by rw[swp_len];omega,by go_num,by rw[swp_len];omega,unhide LS2,unhide R2,(swp_perm M u a hum ha).trans (unhide HP),unhide QF2⟩
    case measure=>simp [intOf];omega
  ·have h00:a=0:=by omega
   subst h00;have Y:=hide (Rise.top (unhide HR));clear hls hr hp hq;go_wp2_with fail
   go_end0
   exact⟨rfl,_,M,unhide HLS,unhide Y,unhide HP,unhide HQ⟩
theorem swap_lsI(w:World)(base bq oq g n cap i j:Nat)(I J:Int)(L:List Int)(hI:I=(i:Int))(hJ:J=(j:Int))(h:LsAt w base bq oq (.slice (some ⟨g,0,none⟩) n cap) L)(hi:i<n)(hj:j<n):
  Calls Tryz.prog 171 #[.pointer (some ⟨bq,oq,none⟩),.int .i64 I,.int .i64 J] w fun e w'=>e=.returned (.tuple #[])∧LsAt w' base bq oq (.slice (some ⟨g,0,none⟩) n cap) (swp L i j)∧QFr bq oq (.slice (some ⟨g,0,none⟩) n cap) (.slice (some ⟨g,0,none⟩) n cap) w w':=by
 subst hI;subst hJ;exact swap_ls w base bq oq g n cap i j L h hi hj
theorem sink_ls(w:World)(base bq oq g n cap:Nat)(L:List Int)(h:LsAt w base bq oq (.slice (some ⟨g,0,none⟩) n cap) L)(hF:Fall L 0)(hn:n≤1000000000):
  Calls Tryz.prog 249 #[.pointer (some ⟨bq,oq,none⟩)] w fun e w'=>e=.returned (.tuple #[])∧∃L',LsAt w' base bq oq (.slice (some ⟨g,0,none⟩) n cap) L'∧Ho L'∧L'.Perm L∧QFr bq oq (.slice (some ⟨g,0,none⟩) n cap) (.slice (some ⟨g,0,none⟩) n cap) w w':=by
 have hl:=h.len.1;have hlc:=h.len.2;have HL:=hide h;have HFF:=hide hF;clear h hF;go_enter Tryz.func249,Tryz.ntmps249;go_wp2_with fail;go_loopw [2] (fun si wr=>∃(a:Nat) (M:List Int),a≤n∧si=.int .i64 a∧M.length=n∧LsAt wr base bq oq (.slice (some ⟨g,0,none⟩) n cap) M∧Fall M a∧M.Perm L∧QFr bq oq (.slice (some ⟨g,0,none⟩) n cap) (.slice (some ⟨g,0,none⟩) n cap) w wr) (fun si _=>n-(intOf si).toNat)
 case atStart=>exact⟨0,L,Nat.zero_le _,rfl,hl.symm,unhide HL,unhide HFF,List.Perm.refl _,QFr.refl _ _ _ _⟩
 case round=>
  clear HFF HL hl;obtain⟨a,M,ha,rfl,hM,hls,hr,hp,hq⟩:=hrel;have HLS:=hide hls;have HR:=hide hr;have HP:=hide hp;have HQ:=hide hq;have hd:=hls.hd;have i0:(0:Int)≤(a:Int):=by omega
  have i1:(a:Int)≤1000000000:=by omega
  by_cases hb:n≤2*a+1
  ·have hb2:(n:Int)≤2*(a:Int)+1:=by omega
   have Y:=hide (Fall.bottom (unhide HR) (by omega));clear hls hr hp hq hb;go_wp2_with fail
   try simp only [Exit.inBlock,Exit.then]
   refine bodyPost_ret (results_none rfl _ _ _) rfl ?_;exact⟨rfl,M,unhide HLS,unhide Y,unhide HP,unhide HQ⟩
  ·have hb2:¬(n:Int)≤2*(a:Int)+1:=by omega
   have hb3:2*(a:Int)+1<(n:Int):=by omega
   have j0:(0:Int)≤2*(a:Int)+1:=by omega
   have j1:(2*(a:Int)+1).toNat=2*a+1:=by omega
   have j2:(a:Int)<(n:Int):=by omega
   have hwr:IntKind.i64.wrap (2*(a:Int)+1+1)=2*(a:Int)+2:=by rw[IntKind.wrap_i64];omega
   obtain⟨xa,hxa⟩:∃z,it M a=z:=⟨_,rfl⟩;have ca:=hls.cell a (by omega);rw[hxa] at ca;obtain⟨xl,hxl⟩:∃z,it M (2*a+1)=z:=⟨_,rfl⟩;have cl:=hls.cell (2*a+1) (by omega);rw[hxl] at cl;by_cases hr2:2*a+2<n
   ·obtain⟨xr,hxr⟩:∃z,it M (2*a+2)=z:=⟨_,rfl⟩;have cr:=hls.cell (2*a+2) (by omega);rw[hxr] at cr;have k0:2*(a:Int)+2<(n:Int):=by omega
    have k1:(0:Int)≤2*(a:Int)+2:=by omega
    have k2:(2*(a:Int)+2).toNat=2*a+2:=by omega
    by_cases ht:xr<xl
    ·have LE:=hide (Lesser.right (by omega) (by rw[hxr,hxl];exact ht):Lesser M a (2*a+2));clear hls hr hp hq hb;by_cases hc:xa≤xr
     ·have Y:=hide (Fall.done (unhide HR) (unhide LE) (by rw[hxa,hxr];exact hc));go_wp2_with fail;go_quiet (fail);go_wp2_with fail;go_quiet (fail);go_wp2_with fail
      try simp only [Exit.inBlock,Exit.then]
      refine bodyPost_ret (results_none rfl _ _ _) rfl ?_;exact⟨rfl,M,(unhide HLS).ext (by first | exact((Ext.refl _).drewN _).drewN _ | exact(Ext.refl _).drewN _),unhide Y,unhide HP,by first | exact((unhide HQ).drewN _).drewN _ | exact(unhide HQ).drewN _⟩
     ·have hc2:decide (xa≤xr)=false:=decide_eq_false hc;have hc3:xr<xa:=by omega
      have R2:=hide (Fall.down (unhide HR) (unhide LE) (by rw[hxa,hxr];exact hc3));have sl:2*a+2<M.length:=(unhide LE).2.1;have ez:((2*a+2:Nat):Int)=2*(a:Int)+2:=by omega
      clear hc hc3;go_wp2_with fail;go_quiet (fail);go_wp2_with fail;go_quiet (fail);go_wp2_with fail;refine(swap_lsI _ base bq oq g n cap a (2*a+2) (a:Int) (2*(a:Int)+2) M rfl ez.symm ((unhide HLS).ext (by first | exact((Ext.refl _).drewN _).drewN _ | exact(Ext.refl _).drewN _)) (by omega) (by omega)).mono ?_;rintro e w2 ⟨rfl,ls2,q2⟩;have LS2:=hide ls2;have QF2:=hide (QFr.trans (by first | exact((unhide HQ).drewN _).drewN _ | exact(unhide HQ).drewN _) q2);clear ls2 q2;go_wp2_with fail;go_roundw
      case rel=>exact⟨2*a+2,swp M a (2*a+2),by omega,by go_num,by rw[swp_len];omega,unhide LS2,unhide R2,(swp_perm M a (2*a+2) (by omega) sl).trans (unhide HP),unhide QF2⟩
      case measure=>simp [intOf];omega
    ·have LE:=hide (Lesser.left (by omega) (fun _=>by rw[hxr,hxl];omega):Lesser M a (2*a+1));have ht2:decide (xr<xl)=false:=decide_eq_false ht;clear hls hr hp hq hb ht;by_cases hc:xa≤xl
     ·have Y:=hide (Fall.done (unhide HR) (unhide LE) (by rw[hxa,hxl];exact hc));go_wp2_with fail;go_quiet (fail);go_wp2_with fail;go_quiet (fail);go_wp2_with fail
      try simp only [Exit.inBlock,Exit.then]
      refine bodyPost_ret (results_none rfl _ _ _) rfl ?_;exact⟨rfl,M,(unhide HLS).ext (by first | exact((Ext.refl _).drewN _).drewN _ | exact(Ext.refl _).drewN _),unhide Y,unhide HP,by first | exact((unhide HQ).drewN _).drewN _ | exact(unhide HQ).drewN _⟩
     ·have hc2:decide (xa≤xl)=false:=decide_eq_false hc;have hc3:xl<xa:=by omega
      have R2:=hide (Fall.down (unhide HR) (unhide LE) (by rw[hxa,hxl];exact hc3));have sl:2*a+1<M.length:=(unhide LE).2.1;have ez:((2*a+1:Nat):Int)=2*(a:Int)+1:=by omega
      clear hc hc3;go_wp2_with fail;go_quiet (fail);go_wp2_with fail;go_quiet (fail);go_wp2_with fail;refine(swap_lsI _ base bq oq g n cap a (2*a+1) (a:Int) (2*(a:Int)+1) M rfl ez.symm ((unhide HLS).ext (by first | exact((Ext.refl _).drewN _).drewN _ | exact(Ext.refl _).drewN _)) (by omega) (by omega)).mono ?_;rintro e w2 ⟨rfl,ls2,q2⟩;have LS2:=hide ls2;have QF2:=hide (QFr.trans (by first | exact((unhide HQ).drewN _).drewN _ | exact(unhide HQ).drewN _) q2);clear ls2 q2;go_wp2_with fail;go_roundw
      case rel=>exact⟨2*a+1,swp M a (2*a+1),by omega,by go_num,by rw[swp_len];omega,unhide LS2,unhide R2,(swp_perm M a (2*a+1) (by omega) sl).trans (unhide HP),unhide QF2⟩
      case measure=>simp [intOf];omega
   ·have LE:=hide (Lesser.left (by omega) (fun q=>by omega):Lesser M a (2*a+1));have hr3:decide (2*(a:Int)+2<(n:Int))=false:=decide_eq_false (by omega);clear hls hr hp hq hb hr2;by_cases hc:xa≤xl
    ·have Y:=hide (Fall.done (unhide HR) (unhide LE) (by rw[hxa,hxl];exact hc));go_wp2_with fail;go_quiet (fail);go_wp2_with fail;go_quiet (fail);go_wp2_with fail
     try simp only [Exit.inBlock,Exit.then]
     refine bodyPost_ret (results_none rfl _ _ _) rfl ?_;exact⟨rfl,M,(unhide HLS).ext (by first | exact((Ext.refl _).drewN _).drewN _ | exact(Ext.refl _).drewN _),unhide Y,unhide HP,by first | exact((unhide HQ).drewN _).drewN _ | exact(unhide HQ).drewN _⟩
    ·have hc2:decide (xa≤xl)=false:=decide_eq_false hc;have hc3:xl<xa:=by omega
     have R2:=hide (Fall.down (unhide HR) (unhide LE) (by rw[hxa,hxl];exact hc3));have sl:2*a+1<M.length:=(unhide LE).2.1;have ez:((2*a+1:Nat):Int)=2*(a:Int)+1:=by omega
     clear hc hc3;go_wp2_with fail;go_quiet (fail);go_wp2_with fail;go_quiet (fail);go_wp2_with fail;refine(swap_lsI _ base bq oq g n cap a (2*a+1) (a:Int) (2*(a:Int)+1) M rfl ez.symm ((unhide HLS).ext (by first | exact((Ext.refl _).drewN _).drewN _ | exact(Ext.refl _).drewN _)) (by omega) (by omega)).mono ?_;rintro e w2 ⟨rfl,ls2,q2⟩;have LS2:=hide ls2;have QF2:=hide (QFr.trans (by first | exact((unhide HQ).drewN _).drewN _ | exact(unhide HQ).drewN _) q2);clear ls2 q2;go_wp2_with fail;go_roundw
     case rel=>exact⟨2*a+1,swp M a (2*a+1),by omega,by go_num,by rw[swp_len];omega,unhide LS2,unhide R2,(swp_perm M a (2*a+1) (by omega) sl).trans (unhide HP),unhide QF2⟩
     case measure=>simp [intOf];omega
def lead2(x:Hp)(i:Nat):Nat:=if ((x.c i).st == 2)=true then (x.c i).to.toNat else i
structure Sn(w:World)(base bs n:Nat)(v:Value)(L:List Int):Prop where
 hb:base≤bs∧bs<w.heap.size
 s:∀i,i<n→w.cell? ⟨bs,i,none⟩=some (.bool (decide ((i:Int)∈L)))
 f:∀i,i<n→w.frozen? ⟨bs,i,none⟩=false
 own:w.ownsRow base 3 1 v L.length (L.map iv)
 ap:v.ownBlock≠some bs
 nd:L.Nodup
 rg:∀z,z∈L→0≤z∧z<n
theorem Sn.ext{w w':World}{base bs n:Nat}{v:Value}{L:List Int}(h:Sn w base bs n v L)(e:Ext w w'):Sn w' base bs n v L:=
 ⟨⟨h.hb.1,Nat.lt_of_lt_of_le h.hb.2 e.size⟩,fun i hi=>e.keep (h.s i hi),fun i hi=>by rw[e.frozen (p:=⟨bs,i,none⟩) h.hb.2];exact h.f i hi,ownsRow_of_block h.own (fun k hk=>e.block k (h.own.lt k hk).2),h.ap,h.nd,h.rg⟩
theorem Sn.len{w:World}{base bs n:Nat}{v:Value}{L:List Int}(h:Sn w base bs n v L):L.length≤n:=by
 have hs:∀z,z∈L→z∈(List.range n).map (fun i:Nat=>(i:Int)):=fun z hz=>by
  have:=h.rg z hz;exact List.mem_map.2 ⟨z.toNat,by simp;omega,by omega⟩
 have:=List.Nodup.length_le_of_subset h.nd hs
 simpa using this
structure Mfr(bs:Nat)(v v':Value)(w w':World):Prop where
 os:w'.os=w.os
 tape:w'.tape=w.tape
 output:w'.output=w.output
 size:w.heap.size≤w'.heap.size
 block:∀k:Nat,k<w.heap.size→k≠bs→v.ownBlock≠some k→w'.heap[k]?=w.heap[k]?
 own:v'.ownBlock=v.ownBlock∨∃g,v'.ownBlock=some g∧w.heap.size≤g
theorem Mfr.of_ext{bs:Nat}{v:Value}{w w':World}(e:Ext w w'):Mfr bs v v w w':=⟨e.os,e.tape,e.output,e.size,fun k hk _ _=>e.block k hk,.inl rfl⟩
theorem Mfr.after{bs:Nat}{v v':Value}{w w1 w2:World}(e:Ext w w1)(q:Mfr bs v v' w1 w2):Mfr bs v v' w w2:=
 ⟨q.os.trans e.os,q.tape.trans e.tape,q.output.trans e.output,Nat.le_trans e.size q.size,fun k hk h1 h2=>(q.block k (Nat.lt_of_lt_of_le hk e.size) h1 h2).trans (e.block k hk),by
  rcases q.own with h | ⟨g,h,hg⟩
  ·exact .inl h
  ·exact .inr ⟨g,h,Nat.le_trans e.size hg⟩⟩
theorem Mfr.ext{a:World}{bs:Nat}{v v':Value}{w w':World}(q:Mfr bs v v' w w')(e:Ext a w)(hb:a.heap.size≤bs)(hv:∀k,v.ownBlock=some k→a.heap.size≤k):Ext a w':=
 Below.trans e ⟨q.os,q.tape,q.output,q.size,fun k hk=>q.block k (Nat.lt_of_lt_of_le hk e.size) (by omega) (fun h=>by have:=hv k h;omega)⟩
theorem Sn.own2{w W:World}{base bs n:Nat}{v:Value}{L:List Int}{j:Nat}(h:Sn w base bs n v L)(hW:Ext (w.setCell ⟨bs,j,none⟩ (.bool true)) W):W.ownsRow base 3 1 v L.length (L.map iv):=
 ownsRow_of_block h.own (fun k hk=>(hW.block k (by simpa using (h.own.lt k hk).2)).trans (Below.heap_setCell _ _ _ _ (show k≠bs from fun e=>h.ap (e ▸ hk))))
theorem Sn.add{w W w2:World}{base bs n:Nat}{v:Value}{L:List Int}{j g cap:Nat}(h:Sn w base bs n v L)(hj:j<n)(hn:¬(j:Int)∈L)(hW:Ext (w.setCell ⟨bs,j,none⟩ (.bool true)) W)
  (hown:w2.ownsRow base 3 1 (.slice (some ⟨g,0,none⟩) (L.length+1) cap) (L.length+1) (L.map iv++[iv j])) (hg:W.grownBy w2 v.ownBlock) (hat:v.ownBlock=some g∨g=W.heap.size) :
  Sn w2 base bs n (.slice (some ⟨g,0,none⟩) (L.length+1) cap) (L++[(j:Int)])∧Mfr bs v (.slice (some ⟨g,0,none⟩) (L.length+1) cap) w w2:=by
 have hs0:w.heap.size≤W.heap.size:=by have:=hW.size;simpa using this
 have hs1:W.heap.size≤w2.heap.size:=hg.size
 have hgb:g≠bs:=by
  rcases hat with e | e
  ·intro q;exact h.ap (q ▸ e)
  ·have:=h.hb.2;omega
 have blk:∀k:Nat,k<w.heap.size→v.ownBlock≠some k→w2.heap[k]?=(w.setCell ⟨bs,j,none⟩ (.bool true)).heap[k]?:=fun k hk hv=>
  (hg.block k (by omega) (fun e=>hv e.symm)).trans (hW.block k (by simpa using hk))
 have hbs:=blk bs h.hb.2 h.ap;refine⟨⟨⟨h.hb.1,by have:=h.hb.2;omega⟩,fun i hi=>?_,fun i hi=>?_,by simpa using hown,fun e=>hgb (by simpa [Value.ownBlock] using e),?_,fun z hz=>?_⟩,⟨hg.os.trans hW.os,hg.tape.trans hW.tape,hg.output.trans hW.output,by omega,fun k hk h1 h2=>?_,?_⟩⟩
 ·rw[World.cell?_of_block (w:=w.setCell ⟨bs,j,none⟩ (.bool true)) (a:=⟨bs,i,none⟩) hbs];by_cases e:i=j
  ·subst e;rw[World.cell?_setCell_same _ _ _ (h.s i hi)];simp
  ·rw[cell_other _ (.inr (fun q=>e q.symm)),h.s i hi];simp only [List.mem_append,List.mem_singleton]
   congr 2
   exact decide_eq_decide.2 ⟨fun q=>.inl q,fun q=>by rcases q with q | q;exact q;omega⟩
 ·rw[World.frozen?_of_block (w:=w.setCell ⟨bs,j,none⟩ (.bool true)) (a:=⟨bs,i,none⟩) hbs,World.frozen?_setCell];exact h.f i hi
 ·rw[List.nodup_append];exact⟨h.nd,by simp,fun a ha b hb=>by simp at hb;rw[hb];intro e;exact hn (e ▸ ha)⟩
 ·rcases List.mem_append.1 hz with q | q
  ·exact h.rg z q
  ·simp at q;omega
 ·rw[blk k hk h2,Below.heap_setCell _ _ _ _ (show k≠bs from h1)]
 ·rcases hat with e | e
  ·exact .inl (by rw[e];rfl)
  ·exact .inr ⟨g,rfl,by omega⟩
theorem infoInt2:(Tryz.prog.info? 3).map (fun i=>(i.zero,i.size,i.bytes))=some (some (.int .i64 0),1,8):=by kernel_rfl
theorem l1resolve_at(x:Hp)(b i:Nat)(w:World){ar:Option Addr}{kr:Nat}{ac:Option Addr}{kc:Nat}{ag:Option Addr}{kg:Nat}(h:HAt w b x ar kr ac kc ag kg)(hi:i<x.cells.length)(ht:(x.c i).st=2→0≤(x.c i).to):
  Calls Tryz.prog 138 #[.pointer (some ⟨b,0,none⟩),.agg #[iv 2,iv 0,iv i]] w fun e w'=>e=.returned (.agg #[iv 2,iv 0,iv (lead2 x i)])∧Ext w w':=by
 cases s2:((x.c i).st == 2)
 ·have:lead2 x i=i:=by simp only [lead2,s2];simp
  rw[this];exact l1resolve_used x b i w h hi s2
 ·have h2:(x.c i).st=2:=by simpa using s2
  have:((lead2 x i:Nat):Int)=(x.c i).to:=by simp only [lead2,s2];have:=ht h2;simp;omega
  rw[this];exact l1resolve_moved x b i w h hi s2
theorem l2mark_no(y:Wd)(b base bs n:Nat)(v:Value)(L:List Int)(w:World)(hs:Sn w base bs n v L)(k2:(y.k == 2)=false):
  Calls Tryz.prog 137 #[.pointer (some ⟨b,0,none⟩),.slice (some ⟨bs,0,none⟩) n n,v,y.v] w fun e w'=>Hid (e=.returned v)∧Sn w' base bs n v L∧Ext w w':=by
 have HS:=hide hs;have k2b:(y.k != 2)=true:=by simpa using k2
 clear hs;go_enter Tryz.func137,Tryz.ntmps137;go_wp2_with fail;refine(l1resolve_num y b _ k2).mono ?_;rintro e w1 ⟨rfl,hq⟩;have x1:Ext w w1:=Ext.trans ((Ext.refl w).alloc _) hq;go_wp2_with fail;go_ret;exact⟨rfl,(unhide HS).ext (x1.alloc _),x1.alloc _⟩
theorem l2mark_at(x:Hp)(b i base bs:Nat)(v:Value)(L:List Int)(w:World){ar:Option Addr}{kr:Nat}{ac:Option Addr}{kc:Nat}{ag:Option Addr}{kg:Nat}(h:HAt w b x ar kr ac kc ag kg)(hi:i<x.cells.length)(ht:(x.c i).st=2→0≤(x.c i).to)(hj:lead2 x i<x.cells.length)(hs:Sn w base bs x.cells.length v L)(hbw:base≤w.heap.size)(hn8:x.cells.length≤8000):
  Calls Tryz.prog 137 #[.pointer (some ⟨b,0,none⟩),.slice (some ⟨bs,0,none⟩) x.cells.length x.cells.length,v,.agg #[iv 2,iv 0,iv i]] w fun e w'=>∃v' L',Hid (e=.returned v')∧Sn w' base bs x.cells.length v' L'∧Hid (((lead2 x i:Int)∈L∧L'=L)∨(¬(lead2 x i:Int)∈L∧L'=L++[(lead2 x i:Int)]))∧Mfr bs v v' w w':=by
 obtain⟨i0,hi0,hz0,hz1,hz2⟩:=info_parts infoInt2;have HS:=hide hs;have HH:=hide h;have hlen:=hs.len;clear hs h;obtain⟨j,ej⟩:∃j,lead2 x i=j:=⟨_,rfl⟩;have LR:=hide (fun W (e:Ext w W)=>l1resolve_at x b i W ((unhide HH).ext e) hi ht);rw[ej] at LR hj ⊢;clear ej;have j0:(0:Int)≤(j:Int):=by omega
 have j1:(j:Int)<(x.cells.length:Int):=by omega
 go_enter Tryz.func137,Tryz.ntmps137;go_wp2_with fail;refine(unhide LR _ ((Ext.refl w).alloc _)).mono ?_;rintro e w1 ⟨rfl,hq⟩;have x1:Ext w w1:=Ext.trans ((Ext.refl w).alloc _) hq;have S1:=hide ((unhide HS).ext x1);have cj:=(unhide S1).s j (by omega);have fj:=(unhide S1).f j (by omega);have hbs:bs<w1.heap.size:=(unhide S1).hb.2;clear hq;by_cases hm:(j:Int)∈L
 ·have E:decide ((j:Int)∈L)=true:=decide_eq_true hm;rw[E] at cj;clear E;go_wp2_with fail;go_ret;exact⟨v,L,rfl,(unhide S1).ext ((Ext.refl w1).alloc _),.inl ⟨hm,rfl⟩,Mfr.of_ext (x1.alloc _)⟩
 ·have E:decide ((j:Int)∈L)=false:=decide_eq_false hm;rw[E] at cj;clear E;go_wp2_with (at_builtin;refine wpList_append_lies _ rfl _ _ 32 rfl base 3 i0 (.int .i64 0) 1 8 Tryz.underlying32 hi0 hz0 hz1 hz2 rfl (by decide) v L.length (L.map iv) rfl (Sn.own2 (j:=j) (unhide S1) (((Ext.refl _).alloc _).alloc _)) _ 1 1 [.int .i64 j] rfl rfl ?c1 ?c2 (by decide) ?c3 ?c4 ?c5 _ rfl ?_)
  case c1=>
   intro k u hk
   match k,hk with
   | 0,hk=>simp at hk;subst hk;simp [Addr.add,go_sem]
  case c2=>intro u hu;simp at hu;subst hu;rfl
  case c3=>unfold maxLen;omega
  case c4=>omega
  case c5=>have:=x1.size;simp;omega
  intro g cap w2 hown hgrow hat hglt;obtain⟨q1,q2⟩:=Sn.add (unhide S1) hj hm (((Ext.refl _).alloc _).alloc _) hown hgrow (by simpa using hat);have FIN:=hide (And.intro q1 (Mfr.after x1 q2));clear q1 q2 hown hgrow hat;go_wp2_with fail;go_ret;exact⟨_,L++[(j:Int)],rfl,(unhide FIN).1,.inr ⟨hm,rfl⟩,(unhide FIN).2⟩
def wantB(x:Hp)(i:Nat):Bool:=((x.c i).st == 1) && (((x.c i).last == 1) || ((x.c i).last == 2))
theorem wantB_iff{x:Hp}{i:Nat}:wantB x i=true↔(x.c i).st=1∧Speaks (x.c i):=by simp [wantB,Speaks]
def wants(x:Hp)(k:Nat):List Int:=valsTo (wantB x) castI k
structure Rw1(w:World)(base:Nat)(v:Value)(M:List Int):Prop where
 own:w.ownsRow base 3 1 v M.length (M.map iv)
theorem Rw1.ext{w w':World}{base:Nat}{v:Value}{M:List Int}(h:Rw1 w base v M)(e:Ext w w'):Rw1 w' base v M:=⟨ownsRow_of_block h.own (fun k hk=>e.block k (h.own.lt k hk).2)⟩
theorem Rw1.cell{w:World}{base g n cap:Nat}{M:List Int}(h:Rw1 w base (.slice (some ⟨g,0,none⟩) n cap) M)(i:Nat)(hi:i<M.length):w.cell? ⟨g,i,none⟩=some (iv (it M i))∧w.frozen? ⟨g,i,none⟩=false∧n=M.length:=by
 rcases h.own.2 with⟨h0,_⟩ | ⟨g',cap',cur,h0,hb,hg,hr⟩
 ·cases h0
 ·cases h0;have:=World.ownsRow.cellAt (w:=w) (base:=base) (e:=3) (size:=1) (g:=g) (n:=M.length) (cap:=cap) (xs:=M.map iv) h.own i (by omega);exact⟨by rw[this];simp [it,hi],World.ownsRow.frozenAt (w:=w) (base:=base) (e:=3) (size:=1) (g:=g) (n:=M.length) (cap:=cap) (xs:=M.map iv) h.own i,rfl⟩
theorem Rw1.base_le{w:World}{base g n cap:Nat}{M:List Int}(h:Rw1 w base (.slice (some ⟨g,0,none⟩) n cap) M):base≤g∧g<w.heap.size:=h.own.lt g rfl
theorem Rw1.swap{w:World}{base g n cap:Nat}{M:List Int}(h:Rw1 w base (.slice (some ⟨g,0,none⟩) n cap) M)(i j:Nat):
  Rw1 ((w.setCell ⟨g,i,none⟩ (iv (it M j))).setCell ⟨g,j,none⟩ (iv (it M i))) base (.slice (some ⟨g,0,none⟩) n cap) (swp M i j):=by
 have hl:n=M.length:=by
  rcases h.own.2 with⟨h0,_⟩ | ⟨g',cap',cur,h0,_⟩
  ·cases h0
  ·cases h0;rfl
 subst hl;obtain⟨s1,_⟩:=World.ownsRow.stored h.own i (iv (it M j));obtain⟨s2,_⟩:=World.ownsRow.stored s1 j (iv (it M i));refine⟨?_⟩;rw[swp_len];unfold swp;rw[List.map_set,List.map_set];exact s2
theorem Rw1.ext_of{w w2 W a:World}{base g cap:Nat}{v:Value}{M:List Int}{z:Int}{o:Obj}(h:Rw1 w base v M)(hW:W=w.alloc o)(hown:w2.ownsRow base 3 1 (.slice (some ⟨g,0,none⟩) (M.length+1) cap) (M.length+1) (M.map iv++[iv z]))(hg:W.grownBy w2 v.ownBlock)(ea:Ext a w)(hb:a.heap.size≤base):
  Rw1 w2 base (.slice (some ⟨g,0,none⟩) (M.length+1) cap) (M++[z])∧Ext a w2∧w.heap.size≤w2.heap.size:=by
 subst hW;have hs:w.heap.size+1≤w2.heap.size:=by have:=hg.size;simpa using this
 refine⟨⟨by simpa using hown⟩,?_,by omega⟩;refine Below.trans ea ⟨hg.os,hg.tape,hg.output,by omega,fun k hk=>?_⟩;have hkw:k<w.heap.size:=Nat.lt_of_lt_of_le hk ea.size;rw[hg.block k (by simp;omega) (fun e=>by have:=(h.own.lt k e.symm).1;omega),Below.heap_alloc _ o k hkw]
def tgt(x:Hp)(y:Wd):Nat:=lead2 x y.a.toNat
def Reached(x:Hp)(i:Nat):Prop:=∀P:Nat→Prop,(∀k (h:k<x.regs.length),x.regs[k].k=2→P (tgt x x.regs[k]))→(∀i,i<x.cells.length→(x.c i).st=1→Speaks (x.c i)→P i)→
 (∀j p,P j→p<(x.c j).prs.length→((x.c j).p p).key.k=2→P (tgt x ((x.c j).p p).key))→(∀j p,P j→p<(x.c j).prs.length→((x.c j).p p).val.k=2→P (tgt x ((x.c j).p p).val))→P i
theorem Reached.reg{x:Hp}(k:Nat)(h:k<x.regs.length)(hk:x.regs[k].k=2):Reached x (tgt x x.regs[k]):=fun _ a _ _ _=>a k h hk
theorem Reached.last{x:Hp}(i:Nat)(hi:i<x.cells.length)(hs:(x.c i).st=1)(h:Speaks (x.c i)):Reached x i:=fun _ _ b _ _=>b i hi hs h
theorem Reached.key{x:Hp}(j p:Nat)(h:Reached x j)(hp:p<(x.c j).prs.length)(hk:((x.c j).p p).key.k=2):Reached x (tgt x ((x.c j).p p).key):=fun P a b c d=>c j p (h P a b c d) hp hk
theorem Reached.val{x:Hp}(j p:Nat)(h:Reached x j)(hp:p<(x.c j).prs.length)(hk:((x.c j).p p).val.k=2):Reached x (tgt x ((x.c j).p p).val):=fun P a b c d=>d j p (h P a b c d) hp hk
def Good(x:Hp)(i:Nat):Prop:=i<x.cells.length∧(x.c i).st=1∧¬Doomed x i
def MayMark(x:Hp)(y:Wd):Prop:=y.k=2→y.n=0∧0≤y.a∧y.a<x.cells.length∧((x.c y.a.toNat).st=2→0≤(x.c y.a.toNat).to)∧Good x (tgt x y)
theorem Leads.may{x:Hp}{y:Wd}{m:Prop}(h:Leads x y m)(r2:R2 x):MayMark x y:=fun hk=>by
 have hf:=h.1;unfold Formed at hf;have hr:y.n=0∧0≤y.a∧y.a<x.cells.length:=by omega
 refine⟨hr.1,hr.2.1,hr.2.2,fun h2=>?_,?_⟩
 ·have:=r2.1 y.a.toNat (by omega);unfold CellOk MovedOk at this;omega
 ·rcases h.2 hk with⟨h1,_⟩ | ⟨h1,h3⟩
  ·have hc:=r2.1 y.a.toNat (by omega);unfold CellOk at hc;rcases hc with hc | hc | hc
   ·omega
   ·have hm:=hc.2;unfold MovedOk at hm;have e:tgt x y=(x.c y.a.toNat).to.toNat:=by unfold tgt lead2;rw[if_pos (by simp [h1])]
    rw[e];exact⟨by omega,hm.2.2.2.2.1,fun d=>by have:=d.1;omega⟩
   ·omega
  ·have e:tgt x y=y.a.toNat:=by unfold tgt lead2;rw[if_neg (by simp [h1])]
   rw[e];exact⟨by omega,h1,h3⟩
theorem may_reg{x:Hp}(r2:R2 x)(r4:R4 x)(k:Nat)(h:k<x.regs.length):MayMark x x.regs[k]:=(r4.1 k h).may r2
theorem may_pair{x:Hp}(r2:R2 x)(r4:R4 x)(j p:Nat)(hj:Good x j)(hp:p<(x.c j).prs.length):MayMark x ((x.c j).p p).key∧MayMark x ((x.c j).p p).val:=by
 have:=((r4.2 j hj.1).2 p hp).2 hj.2.2;exact⟨this.1.may r2,this.2.may r2⟩
theorem good_want{x:Hp}(r4:R4 x)(i:Nat)(hi:i<x.cells.length)(hs:(x.c i).st=1)(h:Speaks (x.c i)):Good x i:=⟨hi,hs,fun d=>(r4.2 i hi).1 ⟨d,h⟩⟩
theorem Reached.good{x:Hp}(r2:R2 x)(r4:R4 x){i:Nat}(h:Reached x i):Good x i:=by
 exact h (Good x) (fun k h hk=>(may_reg r2 r4 k h hk).2.2.2.2) (fun i hi hs h=>good_want r4 i hi hs h) (fun j p ih hp hk=>((may_pair r2 r4 j p ih hp).1 hk).2.2.2.2) (fun j p ih hp hk=>((may_pair r2 r4 j p ih hp).2 hk).2.2.2.2)
def Add(x:Hp)(y:Wd)(L L':List Int):Prop:=(y.k≠2∧L'=L)∨(y.k=2∧(((tgt x y:Int)∈L∧L'=L)∨(¬(tgt x y:Int)∈L∧L'=L++[(tgt x y:Int)])))
theorem Add.pre{x:Hp}{y:Wd}{L L':List Int}(h:Add x y L L'):∃R,L'=L++R:=by
 rcases h with⟨_,e⟩ | ⟨_,⟨_,e⟩ | ⟨_,e⟩⟩
 ·exact⟨[],by simp [e]⟩
 ·exact⟨[],by simp [e]⟩
 ·exact⟨_,e⟩
theorem Add.sub{x:Hp}{y:Wd}{L L':List Int}(h:Add x y L L'){z:Int}(hz:z∈L):z∈L':=by
 obtain⟨R,e⟩:=h.pre;rw[e];exact List.mem_append_left _ hz
theorem Add.has{x:Hp}{y:Wd}{L L':List Int}(h:Add x y L L')(hk:y.k=2):(tgt x y:Int)∈L':=by
 rcases h with⟨n,_⟩ | ⟨_,⟨m,e⟩ | ⟨_,e⟩⟩
 ·exact(n hk).elim
 ·rw[e];exact m
 ·rw[e];simp
theorem Add.new{x:Hp}{y:Wd}{L L':List Int}(h:Add x y L L'){z:Int}(hz:z∈L'):z∈L∨(y.k=2∧z=(tgt x y:Int)):=by
 rcases h with⟨_,e⟩ | ⟨k,⟨_,e⟩ | ⟨_,e⟩⟩
 ·rw[e] at hz;exact .inl hz
 ·rw[e] at hz;exact .inl hz
 ·rw[e] at hz;rcases List.mem_append.1 hz with q | q
  ·exact .inl q
  ·exact .inr ⟨k,by simpa using q⟩
theorem l2mark_any(x:Hp)(y:Wd)(b base bs:Nat)(v:Value)(L:List Int)(w:World){ar:Option Addr}{kr:Nat}{ac:Option Addr}{kc:Nat}{ag:Option Addr}{kg:Nat}(h:HAt w b x ar kr ac kc ag kg)(hy:MayMark x y)(hs:Sn w base bs x.cells.length v L)(hbw:base≤w.heap.size)(hn8:x.cells.length≤8000):
  Calls Tryz.prog 137 #[.pointer (some ⟨b,0,none⟩),.slice (some ⟨bs,0,none⟩) x.cells.length x.cells.length,v,y.v] w fun e w'=>∃v' L',Hid (e=.returned v')∧Sn w' base bs x.cells.length v' L'∧Hid (Add x y L L')∧Mfr bs v v' w w':=by
 cases k2:(y.k == 2)
 ·exact(l2mark_no y b base bs x.cells.length v L w hs k2).mono fun _ _ ⟨he,hs',hx⟩=>⟨v,L,he,hs',.inl ⟨by simpa using k2,rfl⟩,Mfr.of_ext hx⟩
 ·have hk:y.k=2:=by simpa using k2
  obtain⟨n0,a0,a1,ht,hg⟩:=hy hk;obtain⟨i,hi⟩:∃i:Nat,y.a=(i:Int):=⟨y.a.toNat,by omega⟩;have et:tgt x y=lead2 x i:=by unfold tgt;rw[hi];simp
  have ev:(.agg #[iv 2,iv 0,iv i]:Value)=y.v:=by rw[←hi,←n0,←hk]
  rw[et] at hg;have ei:y.a.toNat=i:=by omega
  rw[ei] at ht;have:=l2mark_at x b i base bs v L w h (by omega) ht hg.1 hs hbw hn8;rw[ev] at this;exact this.mono fun _ _ ⟨v',L',he,hs',ha,hx⟩=>⟨v',L',he,hs',.inr ⟨hk,by rw[et];exact unhide ha⟩,hx⟩
theorem infoBools:(Tryz.prog.info? 4).map (fun i=>(i.zero,i.size,i.bytes))=some (some (.bool false),1,1):=by kernel_rfl
theorem mkBools(n:Nat)(hn:n≤1048576)(w:World):∃z,(Instr.makeSlice 65 (.int .i64 n) (.int .i64 n)).run Tryz.prog w=.ok (.slice (some ⟨w.heap.size,0,none⟩) n n) (w.alloc (.cells z 4))∧z=madeCells #[.bool false] n:=by
 obtain⟨i0,hi,hz0,hz1,hz2⟩:=info_parts infoBools;have h:=run_make (P:=Tryz.prog) w 65 4 i0 _ Tryz.underlying65 hi hz0 .i64 .i64 n n (by omega) (Int.le_refl _) (by rw[hz2];omega) (by omega);rw[hz1] at h;simp only [Int.toNat_natCast,Nat.mul_one] at h;exact⟨_,h,rfl⟩
def bo(x:Hp)(z:Int):Int:=(x.c z.toNat).born
def SrtI(x:Hp)(M:List Int):Prop:=∀a b,a<b→b<M.length→bo x (it M a)≤bo x (it M b)
def But(x:Hp)(N:List Int)(j:Nat):Prop:=(∀a b,a<b→b<N.length→a≠j→b≠j→bo x (it N a)≤bo x (it N b))∧(∀b,j<b→b<N.length→bo x (it N j)≤bo x (it N b))
theorem it_app{L R:List Int}{q:Nat}(h:q<L.length):it (L++R) q=it L q:=by unfold it;simp [List.getElem?_append_left h]
theorem But.start{x:Hp}{M:List Int}{z:Int}(h:SrtI x M):But x (M++[z]) M.length:=by
 refine⟨fun a b hab hb ha hb2=>?_,fun b hb1 hb2=>by simp at hb2;omega⟩;simp at hb;rw[it_app (by omega),it_app (by omega)];exact h a b hab (by omega)
theorem But.zero{x:Hp}{N:List Int}(h:But x N 0):SrtI x N:=fun a b hab hb=>by
 by_cases e:a=0
 ·subst e;exact h.2 b hab hb
 ·exact h.1 a b hab hb e (by omega)
theorem But.stop{x:Hp}{N:List Int}{j:Nat}(h:But x N (j+1))(hj:j+1<N.length)(hle:bo x (it N j)≤bo x (it N (j+1))):SrtI x N:=fun a b hab hb=>by
 by_cases e:a=j+1
 ·subst e;exact h.2 b hab hb
 ·by_cases f:b=j+1
  ·subst f;by_cases g:a=j
   ·subst g;exact hle
   ·have:=h.1 a j (by omega) (by omega) e (by omega);omega
  ·exact h.1 a b hab hb e f
theorem But.swap{x:Hp}{N:List Int}{j:Nat}(h:But x N (j+1))(hj:j+1<N.length)(hle:bo x (it N (j+1))≤bo x (it N j)):But x (swp N j (j+1)) j:=by
 have s:=fun k=>swp_it N j (j+1) k (by omega) hj
 refine⟨fun a b hab hb ha hb2=>?_,fun b hb1 hb2=>?_⟩
 ·rw[swp_len] at hb;rw[s a,s b];by_cases e:b=j+1
  ·rw[if_neg (by omega),if_neg ha,if_pos e];exact h.1 a j (by omega) (by omega) (by omega) (by omega)
  ·by_cases f:a=j+1
   ·rw[if_pos f,if_neg e,if_neg hb2];exact h.1 j b (by omega) hb (by omega) e
   ·rw[if_neg f,if_neg ha,if_neg e,if_neg hb2];exact h.1 a b hab hb f e
 ·rw[swp_len] at hb2;rw[s j,s b,if_neg (by omega),if_pos rfl];by_cases e:b=j+1
  ·rw[if_pos e];exact hle
  ·rw[if_neg e,if_neg (by omega)];exact h.2 b (by omega) hb2
theorem l2wants_ord(x:Hp)(b:Nat)(w:World){ar:Option Addr}{kr:Nat}{ac:Option Addr}{kc:Nat}{ag:Option Addr}{kg:Nat}(h:HAt w b x ar kr ac kc ag kg)(hn8:x.cells.length≤8000):
  Calls Tryz.prog 135 #[.pointer (some ⟨b,0,none⟩)] w fun e w'=>∃v M,Hid (e=.returned v)∧Rw1 w' w.heap.size v M∧(M.Perm (wants x x.cells.length)∧SrtI x M)∧Ext w w':=by
 obtain⟨i0,hi0,hz0,hz1,hz2⟩:=info_parts infoInt2;have c4:=h.c4;have hb:b<w.heap.size:=cell_lt c4;have HH:=hide h;clear h;go_enter Tryz.func135,Tryz.ntmps135;go_wp2_with fail;go_loopw [3,14] (fun v i wr=>∃(k:Nat) (M:List Int),k≤x.cells.length∧i=.int .i64 k∧Rw1 wr w.heap.size v M∧Hid (M.Perm (wants x k)∧SrtI x M)∧Ext w wr) (fun _ i _=>x.cells.length-(intOf i).toNat)
 case atStart=>exact⟨0,[],Nat.zero_le _,rfl,⟨World.ownsRow_nil _ _ _ _⟩,⟨List.Perm.refl _,fun a b _ hb=>by simp at hb⟩,Ext.refl _⟩
 case round=>
  clear c4;obtain⟨k,M,hk,rfl,hrw,hp,hbl⟩:=hrel;by_cases hlt:k<x.cells.length
  ·have hh:=(unhide HH).ext hbl;obtain⟨b',o,ap,kp,rfl,p0,p1,p2,p3,p4,p5,p6,p7,lp,P⟩:=hh.cell k hlt;have hb':b'<wr.heap.size:=cell_lt p0;have HRW:=hide hrw;have hk0:(0:Int)≤(k:Int):=by omega
   have hk1:(k:Int)<(x.cells.length:Int):=by omega
   have xa:=hbl.alloc (.cells #[iv (x.c k).st,iv (x.c k).kind,iv (x.c k).weak,iv (x.c k).last,iv (x.c k).born,iv (x.c k).color,iv (x.c k).to,.slice ap (x.c k).prs.length kp] 62);clear P hh hrw;have hlenM:M.length≤k:=by have:=(unhide hp).1.length_eq;have:=valsTo_len (wantB x) castI k;unfold wants at *;omega
   have go_no:wantB x k=false→Hid (M.Perm (wants x (k+1))):=fun q=>by
    have:=(unhide hp).1;unfold wants at *;rw[valsTo_no _ _ _ q];exact this
   have GN:=hide go_no;clear go_no;cases t1:((x.c k).st == 1)
   ·have t1b:((x.c k).st != 1)=true:=by simpa using t1
    have P2:=unhide GN (by simp [wantB,t1]);go_wp2_with fail;go_roundw
    case rel=>exact⟨k+1,M,by omega,by go_num,(unhide HRW).ext ((Ext.refl wr).alloc _),⟨P2,(unhide hp).2⟩,xa⟩
    case measure=>simp [intOf];omega
   ·have t1b:((x.c k).st != 1)=false:=by simpa using t1
    cases t2:((x.c k).last == 1)
    ·have t2b:((x.c k).last != 1)=true:=by simpa using t2
     cases t3:((x.c k).last == 2)
     ·have t3b:((x.c k).last != 2)=true:=by simpa using t3
      have P2:=unhide GN (by simp [wantB,t2,t3]);go_wp2_with fail;go_roundw
      case rel=>exact⟨k+1,M,by omega,by go_num,(unhide HRW).ext ((Ext.refl wr).alloc _),⟨P2,(unhide hp).2⟩,xa⟩
      case measure=>simp [intOf];omega
     ·have t3b:((x.c k).last != 2)=false:=by simpa using t3
      have QW:=hide (show wantB x k=true by simp [wantB,t1,t3]);go_wp2_with (at_builtin;refine wpList_append_lies _ rfl _ _ 32 rfl w.heap.size 3 i0 (.int .i64 0) 1 8 Tryz.underlying32 hi0 hz0 hz1 hz2 rfl (by decide) _ M.length (M.map iv) rfl (((unhide HRW).own.alloc _).alloc _) _ 1 1 [.int .i64 k] rfl rfl ?c1 ?c2 (by decide) ?c3 ?c4 ?c5 _ rfl ?_)
      case c1=>
       intro q u hk
       match q,hk with
       | 0,hk=>simp at hk;subst hk;simp [Addr.add,go_sem]
      case c2=>intro u hu;simp at hu;subst hu;rfl
      case c3=>unfold maxLen;omega
      case c4=>omega
      case c5=>have:=hbl.size;simp;omega
      intro g cap w2 hown hgrow hat hglt;obtain⟨R1,E1,S1⟩:=Rw1.ext_of ((unhide HRW).ext ((Ext.refl wr).alloc _)) rfl hown hgrow xa (Nat.le_refl _)
      have PW:=hide (show(M++[(k:Int)]).Perm (wants x (k+1)) by
       have:=(unhide hp).1;unfold wants at *;rw[valsTo_yes _ _ _ (unhide QW)];exact this.append_right _)
      have Q1:=hide R1;have BT:=hide (But.start (z:=(k:Int)) (unhide hp).2);clear R1 hown hgrow hat p0 p1 p2 p3 p4 p5 p6 p7 xa S1 HRW hp GN;go_wp2_with fail;go_loopw [6] (fun sk wi=>∃(j:Nat) (N:List Int),j<N.length∧sk=.int .i64 j∧N.length=M.length+1∧Rw1 wi w.heap.size (.slice (some ⟨g,0,none⟩) (M.length+1) cap) N∧Hid (N.Perm (wants x (k+1))∧But x N j)∧Ext w wi) (fun sk _=>(intOf sk).toNat)
      case atStart=>exact⟨M.length,M++[(k:Int)],by simp,by go_num,by simp,unhide Q1,⟨unhide PW,unhide BT⟩,E1⟩
      case round=>
       clear Q1 PW BT E1 hbl;obtain⟨j,N,hj,rfl,hNl,hrw,hp,hbl⟩:=hrel;have HRW:=hide hrw;have hh:=(unhide HH).ext hbl;have d4:=hh.c4;have EXIT:=hide (And.intro (unhide HRW) (And.intro (unhide hp) hbl));cases j with
       | zero=>
        clear hrw hh;go_wp2_with fail;go_quiet (fail);go_wp2_with fail;go_roundw
        case rel=>exact⟨k+1,N,by omega,by go_num,(by have q:=unhide HRW;rw[←hNl] at q ⊢;exact q.ext ((Ext.refl _).drewN _)),⟨(unhide hp).1,(unhide hp).2.zero⟩,hbl.drewN _⟩
        case measure=>simp [intOf];omega
       | succ j=>
        obtain⟨a1,a2,a3⟩:=hrw.cell j (by omega);obtain⟨b1,b2,b3⟩:=hrw.cell (j+1) (by omega)
        have rng:∀z,z∈N→∃q:Nat,z=(q:Int)∧q<x.cells.length:=fun z hz=>by
         obtain⟨q,hq,_,e⟩:=(valsTo_mem _ _ _ _).1 ((unhide hp).1.mem_iff.1 hz);exact⟨q,e.symm,by omega⟩
        obtain⟨ia,ea,hia⟩:=rng _ (it_mem N j (by omega));obtain⟨ib,eb,hib⟩:=rng _ (it_mem N (j+1) hj);have ea0:=ea;have eb0:=eb;obtain⟨b1',o1,ap1,kp1,e1,CA⟩:=hh.cell ia hia;cases e1;obtain⟨b2',o2,ap2,kp2,e2,CB⟩:=hh.cell ib hib;cases e2;have pa:=CA.p4;have pb:=CB.p4;have SW:=hide (hrw.swap j (j+1));rw[ea,eb] at SW;have hgl:=hrw.base_le;have BE:=hide (fun h:¬(x.c ib).born<(x.c ia).born=>(unhide hp).2.stop hj (show bo x (it N j)≤bo x (it N (j+1)) by unfold bo;rw[ea0,eb0];simp;omega));have BN:=hide (fun h:(x.c ib).born<(x.c ia).born=>(unhide hp).2.swap hj (show bo x (it N (j+1))≤bo x (it N j) by unfold bo;rw[ea0,eb0];simp;omega));have PSW:=hide ((swp_perm N j (j+1) (by omega) hj).trans (unhide hp).1);rw[ea] at a1;rw[eb] at b1;have j0:(0:Int)≤(j:Int):=by omega
        have j1:(j:Int)<(M.length:Int)+1:=by omega
        have j2:(j:Int)+1<(M.length:Int)+1:=by omega
        have j3:(0:Int)≤(j:Int)+1:=by omega
        have j4:((j:Int)+1).toNat=j+1:=by omega
        have j5:(0:Int)<(j:Int)+1:=by omega
        have q0:(0:Int)≤(ia:Int):=by omega
        have q1:(ia:Int)<(x.cells.length:Int):=by omega
        have q2:(0:Int)≤(ib:Int):=by omega
        have q3:(ib:Int)<(x.cells.length:Int):=by omega
        have hmk:M.length≤8000:=by omega
        clear hrw hh CA CB rng a3 b3 ea eb ea0 eb0;cases tb:decide ((x.c ib).born<(x.c ia).born)
        ·go_wp2_with fail;go_quiet (fail);go_wp2_with fail;go_roundw
         case rel=>exact⟨k+1,N,by omega,by go_num,(by have q:=unhide HRW;rw[←hNl] at q ⊢;exact q.ext ((Ext.refl _).drewN _)),⟨(unhide hp).1,unhide BE (Int.not_lt.1 (of_decide_eq_false tb))⟩,hbl.drewN _⟩
         case measure=>simp [intOf];omega
        ·have tb2:=of_decide_eq_true tb;clear tb;go_wp2_with fail;go_quiet (fail);go_wp2_with fail;go_roundw
         case rel=>exact⟨j,swp N j (j+1),by rw[swp_len];omega,by go_num,by rw[swp_len];omega,⟨ownsRow_of_block (unhide SW).own (fun q _=>rfl)⟩,⟨unhide PSW,unhide BN tb2⟩,((hbl.drewN _).setCell hgl.1 _).setCell hgl.1 _⟩
         case measure=>simp [intOf]
    ·have t2b:((x.c k).last != 1)=false:=by simpa using t2
     have QW:=hide (show wantB x k=true by simp [wantB,t1,t2]);go_wp2_with (at_builtin;refine wpList_append_lies _ rfl _ _ 32 rfl w.heap.size 3 i0 (.int .i64 0) 1 8 Tryz.underlying32 hi0 hz0 hz1 hz2 rfl (by decide) _ M.length (M.map iv) rfl (((unhide HRW).own.alloc _).alloc _) _ 1 1 [.int .i64 k] rfl rfl ?c1 ?c2 (by decide) ?c3 ?c4 ?c5 _ rfl ?_)
     case c1=>
      intro q u hk
      match q,hk with
      | 0,hk=>simp at hk;subst hk;simp [Addr.add,go_sem]
     case c2=>intro u hu;simp at hu;subst hu;rfl
     case c3=>unfold maxLen;omega
     case c4=>omega
     case c5=>have:=hbl.size;simp;omega
     intro g cap w2 hown hgrow hat hglt;obtain⟨R1,E1,S1⟩:=Rw1.ext_of ((unhide HRW).ext ((Ext.refl wr).alloc _)) rfl hown hgrow xa (Nat.le_refl _)
     have PW:=hide (show(M++[(k:Int)]).Perm (wants x (k+1)) by
      have:=(unhide hp).1;unfold wants at *;rw[valsTo_yes _ _ _ (unhide QW)];exact this.append_right _)
     have Q1:=hide R1;have BT:=hide (But.start (z:=(k:Int)) (unhide hp).2);clear R1 hown hgrow hat p0 p1 p2 p3 p4 p5 p6 p7 xa S1 HRW hp GN;go_wp2_with fail;go_loopw [6] (fun sk wi=>∃(j:Nat) (N:List Int),j<N.length∧sk=.int .i64 j∧N.length=M.length+1∧Rw1 wi w.heap.size (.slice (some ⟨g,0,none⟩) (M.length+1) cap) N∧Hid (N.Perm (wants x (k+1))∧But x N j)∧Ext w wi) (fun sk _=>(intOf sk).toNat)
     case atStart=>exact⟨M.length,M++[(k:Int)],by simp,by go_num,by simp,unhide Q1,⟨unhide PW,unhide BT⟩,E1⟩
     case round=>
      clear Q1 PW BT E1 hbl;obtain⟨j,N,hj,rfl,hNl,hrw,hp,hbl⟩:=hrel;have HRW:=hide hrw;have hh:=(unhide HH).ext hbl;have d4:=hh.c4;have EXIT:=hide (And.intro (unhide HRW) (And.intro (unhide hp) hbl));cases j with
      | zero=>
       clear hrw hh;go_wp2_with fail;go_quiet (fail);go_wp2_with fail;go_roundw
       case rel=>exact⟨k+1,N,by omega,by go_num,(by have q:=unhide HRW;rw[←hNl] at q ⊢;exact q.ext ((Ext.refl _).drewN _)),⟨(unhide hp).1,(unhide hp).2.zero⟩,hbl.drewN _⟩
       case measure=>simp [intOf];omega
      | succ j=>
       obtain⟨a1,a2,a3⟩:=hrw.cell j (by omega);obtain⟨b1,b2,b3⟩:=hrw.cell (j+1) (by omega)
       have rng:∀z,z∈N→∃q:Nat,z=(q:Int)∧q<x.cells.length:=fun z hz=>by
        obtain⟨q,hq,_,e⟩:=(valsTo_mem _ _ _ _).1 ((unhide hp).1.mem_iff.1 hz);exact⟨q,e.symm,by omega⟩
       obtain⟨ia,ea,hia⟩:=rng _ (it_mem N j (by omega));obtain⟨ib,eb,hib⟩:=rng _ (it_mem N (j+1) hj);have ea0:=ea;have eb0:=eb;obtain⟨b1',o1,ap1,kp1,e1,CA⟩:=hh.cell ia hia;cases e1;obtain⟨b2',o2,ap2,kp2,e2,CB⟩:=hh.cell ib hib;cases e2;have pa:=CA.p4;have pb:=CB.p4;have SW:=hide (hrw.swap j (j+1));rw[ea,eb] at SW;have hgl:=hrw.base_le;have BE:=hide (fun h:¬(x.c ib).born<(x.c ia).born=>(unhide hp).2.stop hj (show bo x (it N j)≤bo x (it N (j+1)) by unfold bo;rw[ea0,eb0];simp;omega));have BN:=hide (fun h:(x.c ib).born<(x.c ia).born=>(unhide hp).2.swap hj (show bo x (it N (j+1))≤bo x (it N j) by unfold bo;rw[ea0,eb0];simp;omega));have PSW:=hide ((swp_perm N j (j+1) (by omega) hj).trans (unhide hp).1);rw[ea] at a1;rw[eb] at b1;have j0:(0:Int)≤(j:Int):=by omega
       have j1:(j:Int)<(M.length:Int)+1:=by omega
       have j2:(j:Int)+1<(M.length:Int)+1:=by omega
       have j3:(0:Int)≤(j:Int)+1:=by omega
       have j4:((j:Int)+1).toNat=j+1:=by omega
       have j5:(0:Int)<(j:Int)+1:=by omega
       have q0:(0:Int)≤(ia:Int):=by omega
       have q1:(ia:Int)<(x.cells.length:Int):=by omega
       have q2:(0:Int)≤(ib:Int):=by omega
       have q3:(ib:Int)<(x.cells.length:Int):=by omega
       have hmk:M.length≤8000:=by omega
       clear hrw hh CA CB rng a3 b3 ea eb ea0 eb0;cases tb:decide ((x.c ib).born<(x.c ia).born)
       ·go_wp2_with fail;go_quiet (fail);go_wp2_with fail;go_roundw
        case rel=>exact⟨k+1,N,by omega,by go_num,(by have q:=unhide HRW;rw[←hNl] at q ⊢;exact q.ext ((Ext.refl _).drewN _)),⟨(unhide hp).1,unhide BE (Int.not_lt.1 (of_decide_eq_false tb))⟩,hbl.drewN _⟩
        case measure=>simp [intOf];omega
       ·have tb2:=of_decide_eq_true tb;clear tb;go_wp2_with fail;go_quiet (fail);go_wp2_with fail;go_roundw
        case rel=>exact⟨j,swp N j (j+1),by rw[swp_len];omega,by go_num,by rw[swp_len];omega,⟨ownsRow_of_block (unhide SW).own (fun q _=>rfl)⟩,⟨unhide PSW,unhide BN tb2⟩,((hbl.drewN _).setCell hgl.1 _).setCell hgl.1 _⟩
        case measure=>simp [intOf]
  ·have hk2:k=x.cells.length:=by omega
   subst hk2;have HRW:=hide hrw;clear hrw;go_wp2_with fail;go_ret;exact⟨_,M,rfl,unhide HRW,unhide hp,hbl⟩
theorem LsAt.cut{w:World}{base bq oq g n cap:Nat}{L:List Int}(h:LsAt w base bq oq (.slice (some ⟨g,0,none⟩) (n+1) cap) L):
  LsAt (w.setCell ⟨bq,oq,none⟩ (.slice (some ⟨g,0,none⟩) n cap)) base bq oq (.slice (some ⟨g,0,none⟩) n cap) (L.take n)∧
  QFr bq oq (.slice (some ⟨g,0,none⟩) (n+1) cap) (.slice (some ⟨g,0,none⟩) n cap) w (w.setCell ⟨bq,oq,none⟩ (.slice (some ⟨g,0,none⟩) n cap)):=by
 have hne:g≠bq:=fun e=>h.apart (by rw[←e];rfl)
 obtain⟨hl,hc⟩:=h.len;have hsp:L=L.take n++L.drop n:=(List.take_append_drop n L).symm;have hlen:(L.take n).length=n:=by simp;omega
 have how:w.ownsRow base 3 1 (.slice (some ⟨g,0,none⟩) n cap) n ((L.take n).map iv):=by
  refine ownsRow_pop (last:=(L.drop n).map iv) (by simp;omega) ?_;have:=h.own;rw[←hl] at this;rw[←List.map_append,List.take_append_drop];exact this
 refine⟨⟨World.cell?_setCell_same _ _ _ h.hd,by rw[World.frozen?_setCell];exact h.hf,?_,fun e=>hne (by simpa [Value.ownBlock] using e)⟩,⟨rfl,rfl,rfl,by simp [World.setCell],fun k _ h1 _=>Below.heap_setCell _ _ _ _ (show k≠bq from h1),fun o ho=>cell_other _ (.inr (fun e=>ho e.symm)),fun o=>by rw[World.frozen?_setCell],.inl rfl⟩⟩;rw[hlen];refine ownsRow_of_block how (fun k hk=>Below.heap_setCell _ _ _ _ ?_);simp [Value.ownBlock] at hk;show k≠bq;omega
theorem take_some(w:World)(base bq oq:Nat)(v:Value)(L:List Int)(h:LsAt w base bq oq v L)(hn:0<L.length)(hO:Ho L)(hm:L.length≤1000000000):
  Calls Tryz.prog 228 #[.pointer (some ⟨bq,oq,none⟩)] w fun e w'=>e=.returned (.tuple #[.int .i64 (it L 0),.bool true])∧∃v' L',LsAt w' base bq oq v' L'∧Ho L'∧(it L 0::L').Perm L∧QFr bq oq v v' w w':=by
 obtain⟨g,cap,rfl,hg⟩:=h.form hn;obtain⟨n,hn2⟩:∃n,L.length=n+1:=⟨L.length-1,by omega⟩;rw[hn2] at h ⊢;have hlc:=h.len.2;have hd:=h.hd;obtain⟨x0,hx0⟩:∃z,it L 0=z:=⟨_,rfl⟩;have c0:=h.cell 0 hn;rw[hx0] at c0 ⊢;have HL:=hide h;have HF:=hide (Fall.start hO);have HPm:=hide (cutl_perm L hn);have hn3:n≤1000000000:=by omega
 have hcl:cutl L=(swp L 0 n).take n:=by unfold cutl;rw[hn2];simp
 have HCL:=hide hcl;have HN:=hide hn2;have HX:=hide hx0;have i0:(0:Int)≤(n:Int):=by omega
 have i1:(n:Int)≤(cap:Int):=by omega
 clear h hO hn hm hcl hn2 hx0;go_enter Tryz.func228,Tryz.ntmps228;go_wp2_with fail;refine(first_some _ bq oq g 0 (n+1) cap x0 (by omega) hd c0).mono ?_;rintro e w1 ⟨rfl,rfl⟩;go_wp2_with fail;refine(swap_lsI _ base bq oq g (n+1) cap 0 n 0 (n:Int) L rfl rfl (unhide HL) (by omega) (by omega)).mono ?_;rintro e w2 ⟨rfl,ls2,q2⟩;have LS2:=hide ls2;have hd2:=ls2.hd;have hf2:=ls2.hf;have Q2:=hide q2;clear ls2 q2 hd c0;go_wp2_with fail;have LC:=(unhide LS2).cut;rw[←unhide HCL] at LC;refine(sink_ls _ base bq oq g n cap (cutl L) LC.1 (unhide HF) hn3).mono ?_;rintro e w3 ⟨rfl,L3,ls3,ho3,p3,q3⟩
 have FIN:=hide (show LsAt w3 base bq oq (.slice (some ⟨g,0,none⟩) n cap) L3∧Ho L3∧(x0::L3).Perm L∧QFr bq oq (.slice (some ⟨g,0,none⟩) (n+1) cap) (.slice (some ⟨g,0,none⟩) n cap) w1 w3 from
  ⟨ls3,ho3,by have:=unhide HPm;rw[unhide HX] at this;exact(p3.cons x0).trans this,((unhide Q2).trans LC.2).trans q3⟩)
 clear LC ls3 ho3 p3 q3;go_wp2_with fail;go_ret2;exact⟨rfl,_,L3,unhide FIN⟩
structure WkAt(w:World)(base bw bv r1 bn on n:Nat)(v:Value)(Mt St:List Nat):Prop where
 c0:w.cell? ⟨bw,0,none⟩=some (.pointer (some ⟨bv,0,none⟩))
 c1:w.cell? ⟨bw,1,none⟩=some (.map (some r1))
 c2:w.cell? ⟨bw,2,none⟩=some v
 f2:w.frozen? ⟨bw,2,none⟩=false
 m:MapAt w r1 bn (Mt.map (fun i=>on+i*2))
 s:w.ownsRow base 126 1 v St.length (St.map (fun i=>ptr bn (on+i*2)))
 a1:v.ownBlock≠some bw
 a2:v.ownBlock≠some r1
 a3:bw≠r1
 b1:base≤bw
 b2:base≤r1
 sub:∀i,i∈St→i∈Mt
 nd:Mt.Nodup
 nds:St.Nodup
 rg:∀i,i∈Mt→i<n
structure KFr(bw r1:Nat)(v v':Value)(w w':World):Prop where
 os:w'.os=w.os
 tape:w'.tape=w.tape
 output:w'.output=w.output
 size:w.heap.size≤w'.heap.size
 block:∀k:Nat,k<w.heap.size→k≠bw→k≠r1→v.ownBlock≠some k→w'.heap[k]?=w.heap[k]?
 own:v'.ownBlock=v.ownBlock∨∃g,v'.ownBlock=some g∧w.heap.size≤g
 keep:∀o u,o≠2→w.cell? ⟨bw,o,none⟩=some u→w'.cell? ⟨bw,o,none⟩=some u
theorem KFr.of_ext{bw r1:Nat}{v:Value}{w w':World}(e:Ext w w'):KFr bw r1 v v w w':=⟨e.os,e.tape,e.output,e.size,fun k hk _ _ _=>e.block k hk,.inl rfl,fun _ _ _ h=>e.keep h⟩
theorem KFr.trans{bw r1:Nat}{v v1 v2:Value}{w w1 w2:World}(h:KFr bw r1 v v1 w w1)(k:KFr bw r1 v1 v2 w1 w2):KFr bw r1 v v2 w w2:=
 ⟨k.os.trans h.os,k.tape.trans h.tape,k.output.trans h.output,Nat.le_trans h.size k.size,
  fun i hi h1 h2 hv=>(k.block i (Nat.lt_of_lt_of_le hi h.size) h1 h2 (fun e=>by
   rcases h.own with q | ⟨g,q,hg⟩
   ·rw[q] at e;exact hv e
   ·rw[q] at e;cases e;omega)).trans (h.block i hi h1 h2 hv),by
   rcases k.own with q | ⟨g,q,hg⟩
   ·rcases h.own with q2 | ⟨g,q2,hg⟩
    ·exact .inl (q.trans q2)
    ·exact .inr ⟨g,q.trans q2,hg⟩
   ·exact .inr ⟨g,q,Nat.le_trans h.size hg⟩,fun o u ho hc=>k.keep o u ho (h.keep o u ho hc)⟩
theorem WkAt.rlt{w:World}{base bw bv r1 bn on n:Nat}{v:Value}{Mt St:List Nat}(h:WkAt w base bw bv r1 bn on n v Mt St):bw<w.heap.size∧r1<w.heap.size:=by
 refine⟨cell_lt h.c0,?_⟩;obtain⟨es,c,h1,_⟩:=h.m.m;rcases Nat.lt_or_ge r1 w.heap.size with q | q
 ·exact q
 ·rw[Array.getElem?_eq_none q] at h1;cases h1
theorem WkAt.ext{w w':World}{base bw bv r1 bn on n:Nat}{v:Value}{Mt St:List Nat}(h:WkAt w base bw bv r1 bn on n v Mt St)(e:Ext w w'):WkAt w' base bw bv r1 bn on n v Mt St:=
 ⟨e.keep h.c0,e.keep h.c1,e.keep h.c2,by rw[e.frozen (p:=⟨bw,2,none⟩) h.rlt.1];exact h.f2,h.m.block (e.block r1 h.rlt.2),ownsRow_of_block h.s (fun k hk=>e.block k (h.s.lt k hk).2),h.a1,h.a2,h.a3,h.b1,h.b2,h.sub,h.nd,h.nds,h.rg⟩
theorem WkAt.len{w:World}{base bw bv r1 bn on n:Nat}{v:Value}{Mt St:List Nat}(h:WkAt w base bw bv r1 bn on n v Mt St):Mt.length≤n∧St.length≤n:=by
 have key:∀L:List Nat,L.Nodup→(∀i,i∈L→i<n)→L.length≤n:=fun L hn hr=>by
  have:=List.Nodup.length_le_of_subset hn (fun z hz=>List.mem_range.2 (hr z hz))
  simpa using this
 exact⟨key _ h.nd h.rg,key _ h.nds (fun i hi=>h.rg i (h.sub i hi))⟩
theorem WkAt.add{w w1 w2:World}{base bw bv r1 bn on n g cap i:Nat}{v:Value}{Mt St:List Nat}{o:Obj}(h:WkAt w base bw bv r1 bn on n v Mt St)(hi:i<n)(hm:¬i∈Mt)
  (hm1:MapAt w1 r1 bn (Mt.map (fun i=>on+i*2)++[on+i*2])) (hos:w1.os=w.os) (ht:w1.tape=w.tape) (hou:w1.output=w.output) (hsz:w1.heap.size=w.heap.size) (hbl:∀k:Nat,k≠r1→w1.heap[k]?=w.heap[k]?)
  (hown:w2.ownsRow base 126 1 (.slice (some ⟨g,0,none⟩) (St.length+1) cap) (St.length+1) (St.map (fun i=>ptr bn (on+i*2))++[ptr bn (on+i*2)])) (hg:(w1.alloc o).grownBy w2 v.ownBlock) (hat:v.ownBlock=some g∨g=w1.heap.size+1) :
  WkAt (w2.setCell ⟨bw,2,none⟩ (.slice (some ⟨g,0,none⟩) (St.length+1) cap)) base bw bv r1 bn on n (.slice (some ⟨g,0,none⟩) (St.length+1) cap) (Mt++[i]) (St++[i])∧
  KFr bw r1 v (.slice (some ⟨g,0,none⟩) (St.length+1) cap) w (w2.setCell ⟨bw,2,none⟩ (.slice (some ⟨g,0,none⟩) (St.length+1) cap))∧w2.cell? ⟨bw,2,none⟩=some v∧w2.frozen? ⟨bw,2,none⟩=false:=by
 have hr:=h.rlt;have hs1:w1.heap.size+1≤w2.heap.size:=by have:=hg.size;simpa using this
 have blk:∀k:Nat,k<w1.heap.size→v.ownBlock≠some k→w2.heap[k]?=w1.heap[k]?:=fun k hk hv=>(hg.block k (by simp;omega) (fun e=>hv e.symm)).trans (Below.heap_alloc w1 o k hk)
 have hbw:w2.heap[bw]?=w.heap[bw]?:=(blk bw (by omega) h.a1).trans (hbl bw h.a3)
 have hgb:g≠bw∧g≠r1:=by
  rcases hat with e | e
  ·exact⟨fun q=>h.a1 (q ▸ e),fun q=>h.a2 (q ▸ e)⟩
  ·omega
 have cc:∀o' v',w.cell? ⟨bw,o',none⟩=some v'→w2.cell? ⟨bw,o',none⟩=some v':=fun o' v' hc=>(World.cell?_of_block (a:=⟨bw,o',none⟩) hbw).trans hc
 have hc2:=cc 2 _ h.c2;have hf2:w2.frozen? ⟨bw,2,none⟩=false:=(World.frozen?_of_block (a:=⟨bw,2,none⟩) hbw).trans h.f2;refine⟨⟨?_,?_,World.cell?_setCell_same _ _ _ hc2,by rw[World.frozen?_setCell];exact hf2,?_,?_,fun e=>hgb.1 (by simpa [Value.ownBlock] using e),fun e=>hgb.2 (by simpa [Value.ownBlock] using e),h.a3,h.b1,h.b2,?_,?_,?_,?_⟩,⟨?_,?_,?_,?_,fun k hk h1 h2 h3=>?_,?_,fun o u ho hc=>(cell_other _ (.inr (fun e=>ho e.symm))).trans (cc o u hc)⟩,hc2,hf2⟩
 ·rw[cell_other _ (.inr (by omega))];exact cc 0 _ h.c0
 ·rw[cell_other _ (.inr (by omega))];exact cc 1 _ h.c1
 ·refine MapAt.block (w:=w1) (by simpa using hm1) ?_;rw[Below.heap_setCell _ _ _ _ (show r1≠bw from fun e=>h.a3 e.symm)];exact blk r1 (by omega) h.a2
 ·refine ownsRow_of_block (by simpa using hown) (fun k hk=>Below.heap_setCell _ _ _ _ ?_);simp [Value.ownBlock] at hk;show k≠bw;omega
 ·intro j hj;rcases List.mem_append.1 hj with q | q
  ·exact List.mem_append_left _ (h.sub j q)
  ·exact List.mem_append_right _ q
 ·rw[List.nodup_append];exact⟨h.nd,by simp,fun a ha b hb=>by simp at hb;rw[hb];intro e;exact hm (e ▸ ha)⟩
 ·rw[List.nodup_append];exact⟨h.nds,by simp,fun a ha b hb=>by simp at hb;rw[hb];intro e;exact hm (e ▸ h.sub a ha)⟩
 ·intro j hj;rcases List.mem_append.1 hj with q | q
  ·exact h.rg j q
  ·simp at q;omega
 ·exact(hg.os.trans rfl).trans hos
 ·exact(hg.tape.trans rfl).trans ht
 ·exact(hg.output.trans rfl).trans hou
 ·have:(w2.setCell ⟨bw,2,none⟩ (.slice (some ⟨g,0,none⟩) (St.length+1) cap)).heap.size=w2.heap.size:=by simp [World.setCell]
  omega
 ·rw[Below.heap_setCell _ _ _ _ (show k≠bw from h1),blk k (by omega) h3];exact hbl k h2
 ·rcases hat with e | e
  ·exact .inl e.symm
  ·exact .inr ⟨g,rfl,by omega⟩
theorem Sn.start(w:World)(n:Nat)(t:TypeId):Sn (w.alloc (.cells (madeCells #[.bool false] n) t)) w.heap.size w.heap.size n (.slice none 0 0) []:=by
 have e:(w.alloc (.cells (madeCells #[.bool false] n) t)).heap[w.heap.size]?=some (.cells (madeCells #[.bool false] n) t):=heap_alloc_new w _;refine⟨⟨Nat.le_refl _,by simp⟩,fun i hi=>?_,fun i hi=>(made_open w _ n t i hi).2,World.ownsRow_nil _ _ _ _,by simp [Value.ownBlock],List.nodup_nil,fun z hz=>by cases hz⟩;rw[cell_of_row _ w.heap.size i _ _ (0,0) e,←Array.getElem?_toList,toList_madeCells_one];simp [hi]
def OnlyR(x:Hp)(L:List Int):Prop:=∀z,z∈L→∃i:Nat,z=(i:Int)∧Reached x i
def RegsIn(x:Hp)(k:Nat)(L:List Int):Prop:=∀j (h:j<x.regs.length),j<k→x.regs[j].k=2→(tgt x x.regs[j]:Int)∈L
def PairsIn(x:Hp)(j k:Nat)(L:List Int):Prop:=∀p,p<k→(((x.c j).p p).key.k=2→(tgt x ((x.c j).p p).key:Int)∈L)∧(((x.c j).p p).val.k=2→(tgt x ((x.c j).p p).val:Int)∈L)
def ClosedTo(x:Hp)(i:Nat)(L:List Int):Prop:=∀q,q<i→PairsIn x (it L q).toNat (x.c (it L q).toNat).prs.length L
theorem OnlyR.add{x:Hp}{y:Wd}{L L':List Int}(h:OnlyR x L)(a:Add x y L L')(hy:y.k=2→Reached x (tgt x y)):OnlyR x L':=fun z hz=>by
 rcases a.new hz with q | ⟨k,e⟩
 ·exact h z q
 ·exact⟨_,e,hy k⟩
theorem it_pre{L R:List Int}{q:Nat}(h:q<L.length):it (L++R) q=it L q:=by unfold it;simp [List.getElem?_append_left h]
theorem PairsIn.mono{x:Hp}{j k:Nat}{L L':List Int}(h:PairsIn x j k L)(s:∀z,z∈L→z∈L'):PairsIn x j k L':=fun p hp=>⟨fun e=>s _ ((h p hp).1 e),fun e=>s _ ((h p hp).2 e)⟩
theorem ClosedTo.add{x:Hp}{y:Wd}{i:Nat}{L L':List Int}(h:ClosedTo x i L)(a:Add x y L L')(hi:i≤L.length):ClosedTo x i L':=fun q hq=>by
 obtain⟨R,e⟩:=a.pre;have hs:∀z,z∈L→z∈L':=fun z hz=>a.sub hz
 have e2:it L' q=it L q:=by rw[e];exact it_pre (by omega)
 rw[e2];exact(h q hq).mono hs
def WIn(x:Hp)(L:List Int):Prop:=∀i,i<x.cells.length→(x.c i).st=1→Speaks (x.c i)→(i:Int)∈L
structure Gone(x:Hp)(i:Nat)(L:List Int):Prop where
 o:OnlyR x L
 r:RegsIn x x.regs.length L
 w:WIn x L
 c:ClosedTo x i L
theorem Gone.add{x:Hp}{y:Wd}{i:Nat}{L L':List Int}(h:Gone x i L)(a:Add x y L L')(hi:i≤L.length)(hy:y.k=2→Reached x (tgt x y)):Gone x i L':=
 ⟨h.o.add a hy,fun j hj hk e=>a.sub (h.r j hj hk e),fun j hj e1 e2=>a.sub (h.w j hj e1 e2),h.c.add a hi⟩
theorem Gone.step{x:Hp}{i j:Nat}{L:List Int}(h:Gone x i L)(e:it L i=(j:Int))(hp:PairsIn x j (x.c j).prs.length L):Gone x (i+1) L:=
 ⟨h.o,h.r,h.w,fun q hq=>by
  by_cases k:q=i
  ·rw[k,e];simpa using hp
  ·exact h.c q (by omega)⟩
theorem Rw1.form{w:World}{base:Nat}{v:Value}{M:List Int}(h:Rw1 w base v M):∃ad cap,v=.slice ad M.length cap∧(0<M.length→∃g,ad=some ⟨g,0,none⟩):=by
 rcases h.own.2 with⟨h1,h2⟩ | ⟨g,cap,cur,h1,_⟩
 ·exact⟨none,0,by rw[h1,h2],fun h=>by omega⟩
 ·exact⟨_,_,h1,fun _=>⟨g,rfl⟩⟩
theorem Rw1.mfr{w w':World}{base bs:Nat}{v v' vw:Value}{M:List Int}(h:Rw1 w base vw M)(q:Mfr bs v v' w w')(h1:vw.ownBlock≠some bs)(h2:∀k,vw.ownBlock=some k→v.ownBlock≠some k):Rw1 w' base vw M:=
 ⟨ownsRow_of_block h.own (fun k hk=>q.block k (h.own.lt k hk).2 (fun e=>h1 (e ▸ hk)) (h2 k hk))⟩
theorem mfr_apart{w w':World}{base bs:Nat}{v v' vw:Value}{M:List Int}(h:Rw1 w base vw M)(q:Mfr bs v v' w w')(h2:∀k,vw.ownBlock=some k→v.ownBlock≠some k):∀k,vw.ownBlock=some k→v'.ownBlock≠some k:=fun k hk=>by
 rcases q.own with e | ⟨g,e,hg⟩
 ·rw[e];exact h2 k hk
 ·rw[e];intro f;cases f;have:=(h.own.lt k hk).2;omega
theorem Sn.mext{a w w':World}{bs n:Nat}{v v':Value}{L:List Int}(h:Sn w a.heap.size bs n v L)(q:Mfr bs v v' w w')(e:Ext a w):Ext a w':=q.ext e h.hb.1 (fun k hk=>(h.own.lt k hk).1)
theorem Sn.form{w:World}{base bs n:Nat}{v:Value}{L:List Int}(h:Sn w base bs n v L):∃ad cap,v=.slice ad L.length cap∧(0<L.length→∃g,ad=some ⟨g,0,none⟩):=(Rw1.mk h.own).form
def sumTo(x:Hp)(p:Nat→Bool):Nat→Nat
 | 0=>0
 | k+1=>sumTo x p k+(if p k=true then 1+(x.c k).prs.length else 0)
def LiveIs(x:Hp)(r:Nat):Prop:=(OkIs x 0∧∃p:Nat→Bool,(∀i,p i=true↔Reached x i)∧r=sumTo x p x.cells.length)∨(¬OkIs x 0∧r=0)
def zs(O:List Nat):List Int:=O.map (fun i:Nat=>(i:Int))
def ad(O:List Nat)(o:Option Nat):List Nat:=match o with | none=>O | some i=>if i∈O then O else O++[i]
def wq(x:Hp)(y:Wd):Option Nat:=if y.k=2 then some (tgt x y) else none
def regO(x:Hp)(k:Nat):List Nat:=(x.regs.take k).foldl (fun O y=>ad O (wq x y)) []
def wantO(x:Hp)(M:List Nat)(k:Nat):List Nat:=(M.take k).foldl (fun O i=>ad O (some i)) (regO x x.regs.length)
def prO(x:Hp)(j p:Nat)(O:List Nat):List Nat:=((x.c j).prs.take p).foldl (fun O q=>ad (ad O (wq x q.key)) (wq x q.val)) O
def clO(x:Hp):Nat→Nat→List Nat→List Nat
 | 0,_,O=>O
 | f+1,c,O=>if h:c<O.length then clO x f (c+1) (prO x O[c] (x.c O[c]).prs.length O) else O
def ordO(x:Hp)(M:List Nat):List Nat:=clO x (x.cells.length+1) 0 (wantO x M M.length)
theorem mem_zs{O:List Nat}{i:Nat}:(i:Int)∈zs O↔i∈O:=by
 unfold zs;rw[List.mem_map];constructor
 ·rintro⟨j,hj,e⟩;have:j=i:=by omega
  rw[←this];exact hj
 ·intro h;exact⟨i,h,rfl⟩
theorem it_zs{O:List Nat}{c:Nat}(h:c<O.length):it (zs O) c=(O[c]:Int):=by unfold it zs;simp [h]
theorem add_ad{x:Hp}{y:Wd}{O:List Nat}{L':List Int}(h:Add x y (zs O) L'):L'=zs (ad O (wq x y)):=by
 unfold wq;rcases h with⟨k,e⟩ | ⟨k,⟨m,e⟩ | ⟨m,e⟩⟩
 ·rw[if_neg k,e];rfl
 ·rw[if_pos k,e];unfold ad;simp only [if_pos (mem_zs.1 m)]
 ·rw[if_pos k,e];unfold ad;simp only [if_neg (fun q=>m (mem_zs.2 q))];simp [zs]
theorem take_step{α β:Type}(f:β→α→β)(b:β)(l:List α)(k:Nat)(h:k<l.length):(l.take (k+1)).foldl f b=f ((l.take k).foldl f b) l[k]:=by
 rw[List.take_succ_eq_append_getElem h,List.foldl_append];rfl
theorem regO_step{x:Hp}(k:Nat)(h:k<x.regs.length):regO x (k+1)=ad (regO x k) (wq x x.regs[k]):=take_step _ _ _ k h
theorem wantO_step{x:Hp}{M:List Nat}(k:Nat)(h:k<M.length):wantO x M (k+1)=ad (wantO x M k) (some M[k]):=take_step _ _ _ k h
theorem prO_step{x:Hp}{j:Nat}{O:List Nat}(p:Nat)(h:p<(x.c j).prs.length):prO x j (p+1) O=ad (ad (prO x j p O) (wq x ((x.c j).p p).key)) (wq x ((x.c j).p p).val):=by
 have e:(x.c j).p p=(x.c j).prs[p]:=by simp [Cl.p,h]
 rw[e];exact take_step _ _ _ p h
theorem ad_len(O:List Nat)(o:Option Nat):O.length≤(ad O o).length:=by
 unfold ad
 split
 ·exact Nat.le_refl _
 ·split <;> simp
theorem fold_len{α:Type}(f:List Nat→α→List Nat)(hf:∀O a,O.length≤(f O a).length):∀(l:List α) (O:List Nat),O.length≤(l.foldl f O).length
 | [],_=>Nat.le_refl _
 | a::l,O=>Nat.le_trans (hf O a) (fold_len f hf l (f O a))
theorem prO_len(x:Hp)(j p:Nat)(O:List Nat):O.length≤(prO x j p O).length:=fold_len _ (fun O _=>Nat.le_trans (ad_len O _) (ad_len _ _)) _ O
theorem clO_step{x:Hp}{f c j:Nat}{O:List Nat}(h:c<O.length)(e:O[c]=j):clO x f (c+1) (prO x j (x.c j).prs.length O)=clO x (f+1) c O:=by
 subst e;simp only [clO,h,dite_true]
theorem clO_end{x:Hp}{f c:Nat}{O:List Nat}(h:c=O.length):clO x f c O=O:=by
 cases f with
 | zero=>rfl
 | succ f=>simp only [clO,show ¬c<O.length by omega,dite_false]
structure IsW(x:Hp)(N:List Nat):Prop where
 m:∀i,i∈N↔i<x.cells.length∧Speaks (x.c i)
 nd:N.Nodup
 s:∀i j (hi:i<N.length) (hj:j<N.length),i<j→(x.c N[i]).born≤(x.c N[j]).born
structure Ovr(x y:Hp)(φ:Nat→Nat):Prop where
 rl:y.regs.length=x.regs.length
 rg:∀k (h:k<x.regs.length) (h':k<y.regs.length),y.regs[k].k=x.regs[k].k∧(x.regs[k].k=2→tgt y y.regs[k] = φ (tgt x x.regs[k]))
 g:∀i,Good x i→(y.c (φ i)).st=1∧φ i<y.cells.length∧(y.c (φ i)).last=(x.c i).last∧(y.c (φ i)).prs.length=(x.c i).prs.length
 ky:∀i p,Good x i→p<(x.c i).prs.length→((y.c (φ i)).p p).key.k=((x.c i).p p).key.k∧(((x.c i).p p).key.k=2→tgt y ((y.c (φ i)).p p).key = φ (tgt x ((x.c i).p p).key))
 vl:∀i p,Good x i→p<(x.c i).prs.length→((y.c (φ i)).p p).val.k=((x.c i).p p).val.k∧(((x.c i).p p).val.k=2→tgt y ((y.c (φ i)).p p).val = φ (tgt x ((x.c i).p p).val))
 b:∀j,Good y j→∃i,Good x i∧j = φ i
 wk:∀i,Good x i→(y.c (φ i)).weak=(x.c i).weak
 ij:∀i j,Good x i→Good x j→φ i = φ j→i=j
 kb:∀i,Good x i→(y.c (φ i)).kind=(x.c i).kind∧(y.c (φ i)).born=(x.c i).born
 rn:∀k (h:k<x.regs.length) (h':k<y.regs.length),x.regs[k].k≠2→y.regs[k]=x.regs[k]
 pn:∀i p,Good x i→p<(x.c i).prs.length→(((x.c i).p p).key.k≠2→((y.c (φ i)).p p).key=((x.c i).p p).key)∧(((x.c i).p p).val.k≠2→((y.c (φ i)).p p).val=((x.c i).p p).val)
theorem Ovr.to{x y:Hp}{φ:Nat→Nat}(o:Ovr x y φ)(s:Snd x){i:Nat}(h:Reached x i):Reached y (φ i):=by
 have:=h (fun i=>Good x i∧Reached y (φ i)) (fun k hk e=>⟨(may_reg s.r2 s.r4 k hk e).2.2.2.2,?_⟩) (fun i hi hs sp=>?_) (fun j p hj hp e=>⟨((may_pair s.r2 s.r4 j p hj.1 hp).1 e).2.2.2.2,?_⟩) (fun j p hj hp e=>⟨((may_pair s.r2 s.r4 j p hj.1 hp).2 e).2.2.2.2,?_⟩)
 ·exact this.2
 ·have h':k<y.regs.length:=by rw[o.rl];exact hk
  have r:=o.rg k hk h';rw[←r.2 e];exact Reached.reg k h' (by rw[r.1];exact e)
 ·have gd:=good_want s.r4 i hi hs sp;have r:=o.g i gd;exact⟨gd,Reached.last _ r.2.1 r.1 (by unfold Speaks at sp ⊢;rw[r.2.2.1];exact sp)⟩
 ·have r:=o.ky j p hj.1 hp;rw[←r.2 e];exact Reached.key _ p hj.2 (by rw[(o.g j hj.1).2.2.2];exact hp) (by rw[r.1];exact e)
 ·have r:=o.vl j p hj.1 hp;rw[←r.2 e];exact Reached.val _ p hj.2 (by rw[(o.g j hj.1).2.2.2];exact hp) (by rw[r.1];exact e)
theorem Ovr.from{x y:Hp}{φ:Nat→Nat}(o:Ovr x y φ)(s:Snd x)(t:Snd y){j:Nat}(h:Reached y j):∃i,Reached x i∧j = φ i:=by
 refine h (fun j=>∃i,Reached x i∧j = φ i) (fun k hk e=>?_) (fun j hj hs sp=>?_) (fun j p hj hp e=>?_) (fun j p hj hp e=>?_)
 ·have h':k<x.regs.length:=by rw[←o.rl];exact hk
  have r:=o.rg k h' hk;rw[r.1] at e;exact⟨_,Reached.reg k h' e,r.2 e⟩
 ·obtain⟨i,gi,rfl⟩:=o.b j (good_want t.r4 j hj hs sp);have r:=o.g i gi;exact⟨i,Reached.last i gi.1 gi.2.1 (by unfold Speaks at sp ⊢;rw[←r.2.2.1];exact sp),rfl⟩
 ·obtain⟨i,ri,rfl⟩:=hj;have gi:=Reached.good s.r2 s.r4 ri;rw[(o.g i gi).2.2.2] at hp;have r:=o.ky i p gi hp;rw[r.1] at e;exact⟨_,Reached.key i p ri hp e,r.2 e⟩
 ·obtain⟨i,ri,rfl⟩:=hj;have gi:=Reached.good s.r2 s.r4 ri;rw[(o.g i gi).2.2.2] at hp;have r:=o.vl i p gi hp;rw[r.1] at e;exact⟨_,Reached.val i p ri hp e,r.2 e⟩
def Kept(x:Hp):Prop:=∀i,Good x i→Reached x i
theorem Ovr.kept{x y:Hp}{φ:Nat→Nat}(o:Ovr x y φ)(s:Snd x)(k:Kept x):Kept y:=fun j gj=>by
 obtain⟨i,gi,rfl⟩:=o.b j gj;exact o.to s (k i gi)
def S0(F:Nat→Nat):Nat→Nat
 | 0=>0
 | k+1=>S0 F k+F k
theorem S0_sum(x:Hp)(p:Nat→Bool):∀k,sumTo x p k=S0 (fun i=>if p i then 1+(x.c i).prs.length else 0) k
 | 0=>rfl
 | k+1=>by unfold sumTo S0;rw[S0_sum x p k]
theorem S0_congr{F G:Nat→Nat}:∀k,(∀i,i<k→F i=G i)→S0 F k=S0 G k
 | 0,_=>rfl
 | k+1,h=>by unfold S0;rw[S0_congr k (fun i hi=>h i (by omega)),h k (by omega)]
theorem S0_more{F:Nat→Nat}(k:Nat):∀m,(∀i,k≤i→F i=0)→k≤m→S0 F m=S0 F k
 | 0,_,h=>by rw[show k=0 by omega]
 | m+1,h0,h=>by
  by_cases e:k=m+1
  ·rw[e]
  ·show S0 F m+F m=S0 F k;rw[S0_more k m h0 (by omega),h0 m (by omega)];omega
theorem S0_add(F G:Nat→Nat):∀k,S0 (fun i=>F i+G i) k=S0 F k+S0 G k
 | 0=>rfl
 | k+1=>by unfold S0;rw[S0_add F G k];omega
theorem S0_zero:∀k,S0 (fun _=>0) k=0
 | 0=>rfl
 | k+1=>by unfold S0;rw[S0_zero k]
theorem S0_point(W:Nat→Nat)(a:Nat):∀k,S0 (fun i=>if i=a then W i else 0) k=if a<k then W a else 0
 | 0=>by simp [S0]
 | k+1=>by
  unfold S0;rw[S0_point W a k];by_cases e:k=a
  ·subst e;simp
  ·rw[if_neg e];by_cases l:a<k
   ·rw[if_pos l,if_pos (by omega)];rfl
   ·rw[if_neg l,if_neg (by omega)]
theorem S0_swap{F G:Nat→Nat}(t f:Nat)(hne:t≠f)(h:∀i,i≠t→i≠f→G i=F i)(h1:G t=F f)(h2:G f=F t):∀k,S0 G k+(if t<k then F t else 0)+(if f<k then F f else 0)=S0 F k+(if t<k then G t else 0)+(if f<k then G f else 0)
 | 0=>by simp [S0]
 | k+1=>by
  have ih:=S0_swap t f hne h h1 h2 k;unfold S0;by_cases a:k=t
  ·subst a;have:(f<k+1)↔(f<k):=by omega
   simp only [this,Nat.lt_irrefl,if_false,Nat.lt_succ_self,if_true] at ih ⊢;omega
  ·by_cases b:k=f
   ·subst b;have:(t<k+1)↔(t<k):=by omega
    simp only [this,Nat.lt_irrefl,if_false,Nat.lt_succ_self,if_true] at ih ⊢;omega
   ·have e1:(t<k+1)↔(t<k):=by omega
    have e2:(f<k+1)↔(f<k):=by omega
    rw[h k a b];simp only [e1,e2];omega
theorem Ovr.live{x y:Hp}(o:Ovr x y (fun i=>i))(s:Snd x)(t:Snd y){r:Nat}(l:LiveIs x r):LiveIs y r:=by
 obtain⟨_,p,hp,rfl⟩ | ⟨no,_⟩:=l
 ·have hq:∀i,p i=true↔Reached y i:=fun i=>by
   rw[hp];exact⟨fun h=>o.to s h,fun h=>by obtain⟨j,h,rfl⟩:=o.from s t h;exact h⟩
  refine .inl ⟨t.ok,p,hq,?_⟩;rw[S0_sum,S0_sum]
  have zx:∀i,x.cells.length≤i→(if p i then 1+(x.c i).prs.length else 0)=0:=fun i hi=>by
   rw[if_neg (fun h=>by have:=(Reached.good s.r2 s.r4 ((hp i).1 h)).1;omega)]
  have zy:∀i,y.cells.length≤i→(if p i then 1+(y.c i).prs.length else 0)=0:=fun i hi=>by
   rw[if_neg (fun h=>by have:=(Reached.good t.r2 t.r4 ((hq i).1 h)).1;omega)]
  rw[←S0_more x.cells.length (x.cells.length+y.cells.length) zx (by omega),←S0_more y.cells.length (x.cells.length+y.cells.length) zy (by omega)];refine S0_congr _ (fun i _=>?_);by_cases e:p i=true
  ·rw[if_pos e,if_pos e,(o.g i (Reached.good s.r2 s.r4 ((hp i).1 e))).2.2.2]
  ·rw[if_neg e,if_neg e]
 ·exact absurd s.ok no
end Go.Proofs.YtddkhnclmeikfaaGreat
