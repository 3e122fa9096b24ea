import Derived.Test.YtddkhnclmeikfaaGreatSpecA
import Derived.Test.YtddkhnclmeikfaaGreatImpR
set_option maxRecDepth 100000
set_option maxHeartbeats 2000000
namespace Go.Proofs.YtddkhnclmeikfaaGreat
open Go.RowKit
attribute [local go_sem ↓] Go.wp_at_zero Go.wp_at_succ
structure Two(w wr:World)(x:Hp)(k:Nat)(v1 v2:Value)(L1 L2:List Int):Prop where
 e:Ext w wr
 s1:LsAt wr w.heap.size w.heap.size 0 v1 L1
 s2:LsAt wr w.heap.size (w.heap.size+1) 0 v2 L2
 d1:v1.ownBlock≠some (w.heap.size+1)
 d2:v2.ownBlock≠some w.heap.size
 d3:∀k,v2.ownBlock=some k→v1.ownBlock≠some k
 h1:Ho L1
 h2:Ho L2
 p1:L1.Perm (births x k)
 p2:L2.Perm (targets x k)
theorem Two.len{w wr:World}{x:Hp}{k:Nat}{v1 v2:Value}{L1 L2:List Int}(h:Two w wr x k v1 v2 L1 L2):L1.length≤k∧L2.length≤k:=
 ⟨by rw[h.p1.length_eq];exact valsTo_len _ _ _,by rw[h.p2.length_eq];exact valsTo_len _ _ _⟩
theorem Two.ext{w wr w':World}{x:Hp}{k:Nat}{v1 v2:Value}{L1 L2:List Int}(h:Two w wr x k v1 v2 L1 L2)(e:Ext wr w'):Two w w' x k v1 v2 L1 L2:=
 ⟨h.e.trans e,h.s1.ext e,h.s2.ext e,h.d1,h.d2,h.d3,h.h1,h.h2,h.p1,h.p2⟩
theorem Two.skip{w wr:World}{x:Hp}{k:Nat}{v1 v2:Value}{L1 L2:List Int}(h:Two w wr x k v1 v2 L1 L2)(s1:isSt x 1 k=false)(s2:isSt x 2 k=false):Two w wr x (k+1) v1 v2 L1 L2:=
 ⟨h.e,h.s1,h.s2,h.d1,h.d2,h.d3,h.h1,h.h2,by unfold births;rw[valsTo_no _ _ _ s1];exact h.p1,by unfold targets;rw[valsTo_no _ _ _ s2];exact h.p2⟩
theorem Two.start(w:World)(x:Hp)(a b:TypeId):Two w ((w.alloc (.cells #[.slice none 0 0] a)).alloc (.cells #[.slice none 0 0] b)) x 0 (.slice none 0 0) (.slice none 0 0) [] []:=by
 refine⟨((Ext.refl w).alloc _).alloc _,LsAt.nil (by simp [go_sem]) (by simp [go_sem]),LsAt.nil (by simp [go_sem]) (by simp [go_sem]),by simp [Value.ownBlock],by simp [Value.ownBlock],by simp [Value.ownBlock],Ho.nil,Ho.nil,List.Perm.refl _,List.Perm.refl _⟩
theorem infoInt:(Tryz.prog.info? 3).map (fun i=>(i.zero,i.size,i.bytes))=some (some (.int .i64 0),1,8):=by kernel_rfl
theorem put_world{w w1:World}{base bq oq g cap:Nat}{v:Value}{L:List Int}{x:Int}{o:Obj}(h:LsAt w base bq oq v L)
  (hown:w1.ownsRow base 3 1 (.slice (some ⟨g,0,none⟩) (L.length+1) cap) (L.length+1) (L.map iv++[iv x])) (hg:(w.alloc o).grownBy w1 v.ownBlock) (hat:v.ownBlock=some g∨g=w.heap.size+1) :
  LsAt (w1.setCell ⟨bq,oq,none⟩ (.slice (some ⟨g,0,none⟩) (L.length+1) cap)) base bq oq (.slice (some ⟨g,0,none⟩) (L.length+1) cap) (L++[x])∧
  QFr bq oq v (.slice (some ⟨g,0,none⟩) (L.length+1) cap) w (w1.setCell ⟨bq,oq,none⟩ (.slice (some ⟨g,0,none⟩) (L.length+1) cap))∧w1.cell? ⟨bq,oq,none⟩=some v∧w1.frozen? ⟨bq,oq,none⟩=false:=by
 have hlt:=h.hlt
 have hne:g≠bq:=by
  rcases hat with e | e
  ·intro q;exact h.apart (q ▸ e)
  ·omega
 have hs1:w.heap.size+1≤w1.heap.size:=by have:=hg.size;simpa using this
 have hb:∀k,k<w.heap.size→v.ownBlock≠some k→w1.heap[k]?=w.heap[k]?:=fun k hk hv=>
  (hg.block k (by simp;omega) (fun e=>hv e.symm)).trans (Below.heap_alloc w o k hk)
 have hbq:w1.heap[bq]?=w.heap[bq]?:=hb bq hlt h.apart;have hc:w1.cell? ⟨bq,oq,none⟩=some v:=(World.cell?_of_block (a:=⟨bq,oq,none⟩) hbq).trans h.hd;have hf:w1.frozen? ⟨bq,oq,none⟩=false:=(World.frozen?_of_block (a:=⟨bq,oq,none⟩) hbq).trans h.hf;refine⟨⟨World.cell?_setCell_same _ _ _ hc,by rw[World.frozen?_setCell];exact hf,?_,fun e=>hne (by simpa [Value.ownBlock] using e)⟩,⟨?_,?_,?_,?_,fun k hk h1 h2=>?_,fun o' ho=>?_,fun o'=>?_,?_⟩,hc,hf⟩
 ·refine ownsRow_of_block (by simpa using hown) (fun k hk=>Below.heap_setCell _ _ _ _ ?_);simp [Value.ownBlock] at hk;show k≠bq;omega
 ·exact hg.os
 ·exact hg.tape
 ·exact hg.output
 ·have:(w1.setCell ⟨bq,oq,none⟩ (.slice (some ⟨g,0,none⟩) (L.length+1) cap)).heap.size=w1.heap.size:=by simp [World.setCell]
  omega
 ·rw[Below.heap_setCell _ _ _ _ (show k≠bq from h1)];exact hb k hk h2
 ·rw[cell_other _ (.inr (fun e=>ho e.symm))];exact World.cell?_of_block (a:=⟨bq,o',none⟩) hbq
 ·rw[World.frozen?_setCell];exact World.frozen?_of_block (a:=⟨bq,o',none⟩) hbq
 ·rcases hat with e | e
  ·exact .inl e.symm
  ·exact .inr ⟨g,rfl,by omega⟩
theorem put_ls(w:World)(base bq oq:Nat)(v:Value)(L:List Int)(x:Int)(h:LsAt w base bq oq v L)(hb:base≤w.heap.size)(ho:Ho L)(hn:L.length≤1000000000):
  Calls Tryz.prog 107 #[.pointer (some ⟨bq,oq,none⟩),.int .i64 x] w fun e w'=>e=.returned (.tuple #[])∧∃v' L',LsAt w' base bq oq v' L'∧Ho L'∧L'.Perm (x::L)∧QFr bq oq v v' w w':=by
 obtain⟨i0,hi,hz0,hz1,hz2⟩:=info_parts infoInt;have hd:=h.hd;have hf:=h.hf;have hlt:=h.hlt;have HL:=hide h;have HO:=hide (Rise.start ho x);clear h ho;go_enter Tryz.func107,Tryz.ntmps107;go_wp2_with (at_builtin;refine wpList_append_lies _ rfl _ _ 32 rfl base 3 i0 (.int .i64 0) 1 8 Tryz.underlying32 hi hz0 hz1 hz2 rfl (by decide) v L.length (L.map iv) rfl ((unhide HL).own.alloc _) ⟨w.heap.size,0,none⟩ 1 1 [.int .i64 x] rfl rfl ?c1 ?c2 (by decide) ?c3 ?c4 ?c5 (w.heap.size+1) (by simp) ?_)
 case c1=>
  intro j u hj
  match j,hj with
  | 0,hj=>simp at hj;subst hj;simp [Addr.add]
 case c2=>intro u hu;simp at hu;subst hu;rfl
 case c3=>unfold maxLen;omega
 case c4=>omega
 case c5=>simp;omega
 intro g cap w1 hown hgrow hat hglt;obtain⟨P1,P2,P3,P4⟩:=put_world (unhide HL) hown hgrow hat;have Q1:=hide P1;have Q2:=hide P2;clear hown hgrow hat P1 P2 hd hf;go_wp2_with fail;go_loopw [4] (fun si wr=>∃(a:Nat) (M:List Int),a<M.length∧si=.int .i64 a∧M.length=L.length+1∧LsAt wr base bq oq (.slice (some ⟨g,0,none⟩) (L.length+1) cap) M∧Rise M a∧M.Perm (x::L)∧QFr bq oq v (.slice (some ⟨g,0,none⟩) (L.length+1) cap) w wr) (fun si _=>(intOf si).toNat)
 case atStart=>exact⟨L.length,L++[x],by simp,by go_num,by simp,unhide Q1,unhide HO,List.perm_append_singleton _ _,unhide Q2⟩
 case round=>
  clear HO HL P3 P4 Q1 Q2;obtain⟨a,M,ha,rfl,hM,hls,hr,hp,hq⟩:=hrel;have HLS:=hide hls;have HR:=hide hr;have HP:=hide hp;have HQ:=hide hq;have hd:=hls.hd;obtain⟨xa,hxa⟩:∃z,it M a=z:=⟨_,rfl⟩;have ca:=hls.cell a ha;rw[hxa] at ca;by_cases h0:0<a
  ·obtain⟨u,hu⟩:∃u,u=(a-1) / 2:=⟨_,rfl⟩;have hum:u<M.length:=by omega
   obtain⟨xu,hxu⟩:∃z,it M u=z:=⟨_,rfl⟩;have cu:=hls.cell u hum;rw[hxu] at cu
   have hq2:((a:Int)-1).tdiv 2=(u:Int):=by
    rw[Int.tdiv_eq_ediv_of_nonneg (by omega)];omega
   have i0:(0:Int)<(a:Int):=by omega
   have i1:(0:Int)≤(a:Int):=by omega
   have i2:(a:Int)<(L.length:Int)+1:=by omega
   have i3:(0:Int)≤(u:Int):=by omega
   have i4:(u:Int)<(L.length:Int)+1:=by omega
   have hua:u<a:=by omega
   have HU:=hide hu;clear hls hr hp hq hu;by_cases hc:xu≤xa
   ·have Y:=hide (Rise.done (unhide HR) (by rw[←unhide HU,hxu,hxa];exact hc));go_wp2_with fail;go_quiet (fail);go_wp2_with fail
    try simp only [Exit.inBlock,Exit.then]
    refine bodyPost_ret (results_none rfl _ _ _) rfl ?_;exact⟨rfl,_,M,(unhide HLS).ext ((Ext.refl _).drewN _),unhide Y,unhide HP,(unhide HQ).drewN _⟩
   ·have hc2:decide (xu≤xa)=false:=decide_eq_false hc;have hc3:xa<xu:=by omega
    have R2:=hide (Rise.up (unhide HR) h0 ha (unhide HU) (by rw[hxu,hxa];exact hc3));clear hc hc3;go_wp2_with fail;go_quiet (fail);go_wp2_with fail;refine(swap_ls _ base bq oq g (L.length+1) cap u a M ((unhide HLS).ext ((Ext.refl _).drewN _)) (by omega) (by omega)).mono ?_;rintro e w2 ⟨rfl,ls2,q2⟩;have LS2:=hide ls2;have QF2:=hide (((unhide HQ).drewN _).trans q2);clear ls2 q2;go_wp2_with fail;go_roundw
    case rel=>exact⟨u,swp M u a,by rw[swp_len];omega,by go_num,by rw[swp_len];omega,unhide LS2,unhide R2,(swp_perm M u a hum ha).trans (unhide HP),unhide QF2⟩
    case measure=>simp [intOf];omega
  ·have h00:a=0:=by omega
   subst h00;have Y:=hide (Rise.top (unhide HR));clear hls hr hp hq;go_wp2_with fail
   go_end0
   exact⟨rfl,_,M,unhide HLS,unhide Y,unhide HP,unhide HQ⟩
theorem swap_lsI(w:World)(base bq oq g n cap i j:Nat)(I J:Int)(L:List Int)(hI:I=(i:Int))(hJ:J=(j:Int))(h:LsAt w base bq oq (.slice (some ⟨g,0,none⟩) n cap) L)(hi:i<n)(hj:j<n):
  Calls Tryz.prog 171 #[.pointer (some ⟨bq,oq,none⟩),.int .i64 I,.int .i64 J] w fun e w'=>e=.returned (.tuple #[])∧LsAt w' base bq oq (.slice (some ⟨g,0,none⟩) n cap) (swp L i j)∧QFr bq oq (.slice (some ⟨g,0,none⟩) n cap) (.slice (some ⟨g,0,none⟩) n cap) w w':=by
 subst hI;subst hJ;exact swap_ls w base bq oq g n cap i j L h hi hj
theorem sink_ls(w:World)(base bq oq g n cap:Nat)(L:List Int)(h:LsAt w base bq oq (.slice (some ⟨g,0,none⟩) n cap) L)(hF:Fall L 0)(hn:n≤1000000000):
  Calls Tryz.prog 249 #[.pointer (some ⟨bq,oq,none⟩)] w fun e w'=>e=.returned (.tuple #[])∧∃L',LsAt w' base bq oq (.slice (some ⟨g,0,none⟩) n cap) L'∧Ho L'∧L'.Perm L∧QFr bq oq (.slice (some ⟨g,0,none⟩) n cap) (.slice (some ⟨g,0,none⟩) n cap) w w':=by
 have hl:=h.len.1;have hlc:=h.len.2;have HL:=hide h;have HFF:=hide hF;clear h hF;go_enter Tryz.func249,Tryz.ntmps249;go_wp2_with fail;go_loopw [2] (fun si wr=>∃(a:Nat) (M:List Int),a≤n∧si=.int .i64 a∧M.length=n∧LsAt wr base bq oq (.slice (some ⟨g,0,none⟩) n cap) M∧Fall M a∧M.Perm L∧QFr bq oq (.slice (some ⟨g,0,none⟩) n cap) (.slice (some ⟨g,0,none⟩) n cap) w wr) (fun si _=>n-(intOf si).toNat)
 case atStart=>exact⟨0,L,Nat.zero_le _,rfl,hl.symm,unhide HL,unhide HFF,List.Perm.refl _,QFr.refl _ _ _ _⟩
 case round=>
  clear HFF HL hl;obtain⟨a,M,ha,rfl,hM,hls,hr,hp,hq⟩:=hrel;have HLS:=hide hls;have HR:=hide hr;have HP:=hide hp;have HQ:=hide hq;have hd:=hls.hd;have i0:(0:Int)≤(a:Int):=by omega
  have i1:(a:Int)≤1000000000:=by omega
  by_cases hb:n≤2*a+1
  ·have hb2:(n:Int)≤2*(a:Int)+1:=by omega
   have Y:=hide (Fall.bottom (unhide HR) (by omega));clear hls hr hp hq hb;go_wp2_with fail
   try simp only [Exit.inBlock,Exit.then]
   refine bodyPost_ret (results_none rfl _ _ _) rfl ?_;exact⟨rfl,M,unhide HLS,unhide Y,unhide HP,unhide HQ⟩
  ·have hb2:¬(n:Int)≤2*(a:Int)+1:=by omega
   have hb3:2*(a:Int)+1<(n:Int):=by omega
   have j0:(0:Int)≤2*(a:Int)+1:=by omega
   have j1:(2*(a:Int)+1).toNat=2*a+1:=by omega
   have j2:(a:Int)<(n:Int):=by omega
   have hwr:IntKind.i64.wrap (2*(a:Int)+1+1)=2*(a:Int)+2:=by rw[IntKind.wrap_i64];omega
   obtain⟨xa,hxa⟩:∃z,it M a=z:=⟨_,rfl⟩;have ca:=hls.cell a (by omega);rw[hxa] at ca;obtain⟨xl,hxl⟩:∃z,it M (2*a+1)=z:=⟨_,rfl⟩;have cl:=hls.cell (2*a+1) (by omega);rw[hxl] at cl;by_cases hr2:2*a+2<n
   ·obtain⟨xr,hxr⟩:∃z,it M (2*a+2)=z:=⟨_,rfl⟩;have cr:=hls.cell (2*a+2) (by omega);rw[hxr] at cr;have k0:2*(a:Int)+2<(n:Int):=by omega
    have k1:(0:Int)≤2*(a:Int)+2:=by omega
    have k2:(2*(a:Int)+2).toNat=2*a+2:=by omega
    by_cases ht:xr<xl
    ·have LE:=hide (Lesser.right (by omega) (by rw[hxr,hxl];exact ht):Lesser M a (2*a+2));clear hls hr hp hq hb;by_cases hc:xa≤xr
     ·have Y:=hide (Fall.done (unhide HR) (unhide LE) (by rw[hxa,hxr];exact hc));go_wp2_with fail;go_quiet (fail);go_wp2_with fail;go_quiet (fail);go_wp2_with fail
      try simp only [Exit.inBlock,Exit.then]
      refine bodyPost_ret (results_none rfl _ _ _) rfl ?_;exact⟨rfl,M,(unhide HLS).ext (by first | exact((Ext.refl _).drewN _).drewN _ | exact(Ext.refl _).drewN _),unhide Y,unhide HP,by first | exact((unhide HQ).drewN _).drewN _ | exact(unhide HQ).drewN _⟩
     ·have hc2:decide (xa≤xr)=false:=decide_eq_false hc;have hc3:xr<xa:=by omega
      have R2:=hide (Fall.down (unhide HR) (unhide LE) (by rw[hxa,hxr];exact hc3));have sl:2*a+2<M.length:=(unhide LE).2.1;have ez:((2*a+2:Nat):Int)=2*(a:Int)+2:=by omega
      clear hc hc3;go_wp2_with fail;go_quiet (fail);go_wp2_with fail;go_quiet (fail);go_wp2_with fail;refine(swap_lsI _ base bq oq g n cap a (2*a+2) (a:Int) (2*(a:Int)+2) M rfl ez.symm ((unhide HLS).ext (by first | exact((Ext.refl _).drewN _).drewN _ | exact(Ext.refl _).drewN _)) (by omega) (by omega)).mono ?_;rintro e w2 ⟨rfl,ls2,q2⟩;have LS2:=hide ls2;have QF2:=hide (QFr.trans (by first | exact((unhide HQ).drewN _).drewN _ | exact(unhide HQ).drewN _) q2);clear ls2 q2;go_wp2_with fail;go_roundw
      case rel=>exact⟨2*a+2,swp M a (2*a+2),by omega,by go_num,by rw[swp_len];omega,unhide LS2,unhide R2,(swp_perm M a (2*a+2) (by omega) sl).trans (unhide HP),unhide QF2⟩
      case measure=>simp [intOf];omega
    ·have LE:=hide (Lesser.left (by omega) (fun _=>by rw[hxr,hxl];omega):Lesser M a (2*a+1));have ht2:decide (xr<xl)=false:=decide_eq_false ht;clear hls hr hp hq hb ht;by_cases hc:xa≤xl
     ·have Y:=hide (Fall.done (unhide HR) (unhide LE) (by rw[hxa,hxl];exact hc));go_wp2_with fail;go_quiet (fail);go_wp2_with fail;go_quiet (fail);go_wp2_with fail
      try simp only [Exit.inBlock,Exit.then]
      refine bodyPost_ret (results_none rfl _ _ _) rfl ?_;exact⟨rfl,M,(unhide HLS).ext (by first | exact((Ext.refl _).drewN _).drewN _ | exact(Ext.refl _).drewN _),unhide Y,unhide HP,by first | exact((unhide HQ).drewN _).drewN _ | exact(unhide HQ).drewN _⟩
     ·have hc2:decide (xa≤xl)=false:=decide_eq_false hc;have hc3:xl<xa:=by omega
      have R2:=hide (Fall.down (unhide HR) (unhide LE) (by rw[hxa,hxl];exact hc3));have sl:2*a+1<M.length:=(unhide LE).2.1;have ez:((2*a+1:Nat):Int)=2*(a:Int)+1:=by omega
      clear hc hc3;go_wp2_with fail;go_quiet (fail);go_wp2_with fail;go_quiet (fail);go_wp2_with fail;refine(swap_lsI _ base bq oq g n cap a (2*a+1) (a:Int) (2*(a:Int)+1) M rfl ez.symm ((unhide HLS).ext (by first | exact((Ext.refl _).drewN _).drewN _ | exact(Ext.refl _).drewN _)) (by omega) (by omega)).mono ?_;rintro e w2 ⟨rfl,ls2,q2⟩;have LS2:=hide ls2;have QF2:=hide (QFr.trans (by first | exact((unhide HQ).drewN _).drewN _ | exact(unhide HQ).drewN _) q2);clear ls2 q2;go_wp2_with fail;go_roundw
      case rel=>exact⟨2*a+1,swp M a (2*a+1),by omega,by go_num,by rw[swp_len];omega,unhide LS2,unhide R2,(swp_perm M a (2*a+1) (by omega) sl).trans (unhide HP),unhide QF2⟩
      case measure=>simp [intOf];omega
   ·have LE:=hide (Lesser.left (by omega) (fun q=>by omega):Lesser M a (2*a+1));have hr3:decide (2*(a:Int)+2<(n:Int))=false:=decide_eq_false (by omega);clear hls hr hp hq hb hr2;by_cases hc:xa≤xl
    ·have Y:=hide (Fall.done (unhide HR) (unhide LE) (by rw[hxa,hxl];exact hc));go_wp2_with fail;go_quiet (fail);go_wp2_with fail;go_quiet (fail);go_wp2_with fail
     try simp only [Exit.inBlock,Exit.then]
     refine bodyPost_ret (results_none rfl _ _ _) rfl ?_;exact⟨rfl,M,(unhide HLS).ext (by first | exact((Ext.refl _).drewN _).drewN _ | exact(Ext.refl _).drewN _),unhide Y,unhide HP,by first | exact((unhide HQ).drewN _).drewN _ | exact(unhide HQ).drewN _⟩
    ·have hc2:decide (xa≤xl)=false:=decide_eq_false hc;have hc3:xl<xa:=by omega
     have R2:=hide (Fall.down (unhide HR) (unhide LE) (by rw[hxa,hxl];exact hc3));have sl:2*a+1<M.length:=(unhide LE).2.1;have ez:((2*a+1:Nat):Int)=2*(a:Int)+1:=by omega
     clear hc hc3;go_wp2_with fail;go_quiet (fail);go_wp2_with fail;go_quiet (fail);go_wp2_with fail;refine(swap_lsI _ base bq oq g n cap a (2*a+1) (a:Int) (2*(a:Int)+1) M rfl ez.symm ((unhide HLS).ext (by first | exact((Ext.refl _).drewN _).drewN _ | exact(Ext.refl _).drewN _)) (by omega) (by omega)).mono ?_;rintro e w2 ⟨rfl,ls2,q2⟩;have LS2:=hide ls2;have QF2:=hide (QFr.trans (by first | exact((unhide HQ).drewN _).drewN _ | exact(unhide HQ).drewN _) q2);clear ls2 q2;go_wp2_with fail;go_roundw
     case rel=>exact⟨2*a+1,swp M a (2*a+1),by omega,by go_num,by rw[swp_len];omega,unhide LS2,unhide R2,(swp_perm M a (2*a+1) (by omega) sl).trans (unhide HP),unhide QF2⟩
     case measure=>simp [intOf];omega
theorem LsAt.cut{w:World}{base bq oq g n cap:Nat}{L:List Int}(h:LsAt w base bq oq (.slice (some ⟨g,0,none⟩) (n+1) cap) L):
  LsAt (w.setCell ⟨bq,oq,none⟩ (.slice (some ⟨g,0,none⟩) n cap)) base bq oq (.slice (some ⟨g,0,none⟩) n cap) (L.take n)∧
  QFr bq oq (.slice (some ⟨g,0,none⟩) (n+1) cap) (.slice (some ⟨g,0,none⟩) n cap) w (w.setCell ⟨bq,oq,none⟩ (.slice (some ⟨g,0,none⟩) n cap)):=by
 have hne:g≠bq:=fun e=>h.apart (by rw[←e];rfl)
 obtain⟨hl,hc⟩:=h.len;have hsp:L=L.take n++L.drop n:=(List.take_append_drop n L).symm;have hlen:(L.take n).length=n:=by simp;omega
 have how:w.ownsRow base 3 1 (.slice (some ⟨g,0,none⟩) n cap) n ((L.take n).map iv):=by
  refine ownsRow_pop (last:=(L.drop n).map iv) (by simp;omega) ?_;have:=h.own;rw[←hl] at this;rw[←List.map_append,List.take_append_drop];exact this
 refine⟨⟨World.cell?_setCell_same _ _ _ h.hd,by rw[World.frozen?_setCell];exact h.hf,?_,fun e=>hne (by simpa [Value.ownBlock] using e)⟩,⟨rfl,rfl,rfl,by simp [World.setCell],fun k _ h1 _=>Below.heap_setCell _ _ _ _ (show k≠bq from h1),fun o ho=>cell_other _ (.inr (fun e=>ho e.symm)),fun o=>by rw[World.frozen?_setCell],.inl rfl⟩⟩;rw[hlen];refine ownsRow_of_block how (fun k hk=>Below.heap_setCell _ _ _ _ ?_);simp [Value.ownBlock] at hk;show k≠bq;omega
theorem take_some(w:World)(base bq oq:Nat)(v:Value)(L:List Int)(h:LsAt w base bq oq v L)(hn:0<L.length)(hO:Ho L)(hm:L.length≤1000000000):
  Calls Tryz.prog 228 #[.pointer (some ⟨bq,oq,none⟩)] w fun e w'=>e=.returned (.tuple #[.int .i64 (it L 0),.bool true])∧∃v' L',LsAt w' base bq oq v' L'∧Ho L'∧(it L 0::L').Perm L∧QFr bq oq v v' w w':=by
 obtain⟨g,cap,rfl,hg⟩:=h.form hn;obtain⟨n,hn2⟩:∃n,L.length=n+1:=⟨L.length-1,by omega⟩;rw[hn2] at h ⊢;have hlc:=h.len.2;have hd:=h.hd;obtain⟨x0,hx0⟩:∃z,it L 0=z:=⟨_,rfl⟩;have c0:=h.cell 0 hn;rw[hx0] at c0 ⊢;have HL:=hide h;have HF:=hide (Fall.start hO);have HPm:=hide (cutl_perm L hn);have hn3:n≤1000000000:=by omega
 have hcl:cutl L=(swp L 0 n).take n:=by unfold cutl;rw[hn2];simp
 have HCL:=hide hcl;have HN:=hide hn2;have HX:=hide hx0;have i0:(0:Int)≤(n:Int):=by omega
 have i1:(n:Int)≤(cap:Int):=by omega
 clear h hO hn hm hcl hn2 hx0;go_enter Tryz.func228,Tryz.ntmps228;go_wp2_with fail;refine(first_some _ bq oq g 0 (n+1) cap x0 (by omega) hd c0).mono ?_;rintro e w1 ⟨rfl,rfl⟩;go_wp2_with fail;refine(swap_lsI _ base bq oq g (n+1) cap 0 n 0 (n:Int) L rfl rfl (unhide HL) (by omega) (by omega)).mono ?_;rintro e w2 ⟨rfl,ls2,q2⟩;have LS2:=hide ls2;have hd2:=ls2.hd;have hf2:=ls2.hf;have Q2:=hide q2;clear ls2 q2 hd c0;go_wp2_with fail;have LC:=(unhide LS2).cut;rw[←unhide HCL] at LC;refine(sink_ls _ base bq oq g n cap (cutl L) LC.1 (unhide HF) hn3).mono ?_;rintro e w3 ⟨rfl,L3,ls3,ho3,p3,q3⟩
 have FIN:=hide (show LsAt w3 base bq oq (.slice (some ⟨g,0,none⟩) n cap) L3∧Ho L3∧(x0::L3).Perm L∧QFr bq oq (.slice (some ⟨g,0,none⟩) (n+1) cap) (.slice (some ⟨g,0,none⟩) n cap) w1 w3 from
  ⟨ls3,ho3,by have:=unhide HPm;rw[unhide HX] at this;exact(p3.cons x0).trans this,((unhide Q2).trans LC.2).trans q3⟩)
 clear LC ls3 ho3 p3 q3;go_wp2_with fail;go_ret2;exact⟨rfl,_,L3,unhide FIN⟩
end Go.Proofs.YtddkhnclmeikfaaGreat
