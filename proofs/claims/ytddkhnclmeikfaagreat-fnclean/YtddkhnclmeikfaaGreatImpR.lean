import Derived.Test.YtddkhnclmeikfaaGreatScm
import Derived.Test.YtddkhnclmeikfaaGreatImpN
set_option maxRecDepth 100000
set_option maxHeartbeats 4000000
namespace Go.Proofs.YtddkhnclmeikfaaGreat
open Go.RowKit
attribute [local go_sem ↓] Go.wp_at_zero Go.wp_at_succ
variable{x:Hp}{w w':World}{base kr kc kg kn bq oq g cap b:Nat}{F L:List Int}{ar ac ag an:Option Addr}{vf:Value}
theorem infoInt:(Tryz.prog.info? 3).map (λi=>(i.zero,i.size,i.bytes))=some (some (.int .i64 0),1,8):=by kernel_rfl
theorem c4r{w1:World}{v:Value}{x:Int}{o:Obj}(h:eK w base bq oq v L)
  (hown:w1.ownsRow base 3 1 (.slice (some ⟨g,0,none⟩) (L.length+1) cap) (L.length+1) (L.map iv++[iv x])) (hg:(w.alloc o).grownBy w1 v.ownBlock) (hat:v.ownBlock=some g\/g=w.heap.size+1) :
  eK (w1.setCell ⟨bq,oq,none⟩ (.slice (some ⟨g,0,none⟩) (L.length+1) cap)) base bq oq (.slice (some ⟨g,0,none⟩) (L.length+1) cap) (L++[x])/\
  QFr bq oq v (.slice (some ⟨g,0,none⟩) (L.length+1) cap) w (w1.setCell ⟨bq,oq,none⟩ (.slice (some ⟨g,0,none⟩) (L.length+1) cap))/\w1.cell? ⟨bq,oq,none⟩=some v/\w1.frozen? ⟨bq,oq,none⟩=false:=by
 have hlt:=h.hlt
 have hne:g≠bq:=by
  rcases hat with e | e
  ·intro q;exact h.apart (q ▸ e)
  ·omega
 have hs1:w.heap.size+1<=w1.heap.size:=by have:=hg.size;simpa using this
 have hb:∀k,k<w.heap.size->v.ownBlock≠some k->w1.heap[k]?=w.heap[k]?:=λk hk hv=>
  (hg.block k (by simp;omega) (λe=>hv e.symm)).trans (Below.heap_alloc w o k hk)
 have hbq:w1.heap[bq]?=w.heap[bq]?:=hb bq hlt h.apart;have hc:w1.cell? ⟨bq,oq,none⟩=some v:=(World.cell?_of_block (a:=⟨bq,oq,none⟩) hbq).trans h.hd;have hf:w1.frozen? ⟨bq,oq,none⟩=false:=(World.frozen?_of_block (a:=⟨bq,oq,none⟩) hbq).trans h.hf;refine⟨⟨World.cell?_setCell_same _ _ _ hc,by rw[World.frozen?_setCell];exact hf,?_,λe=>hne (by simpa [Value.ownBlock] using e)⟩,⟨?_,?_,?_,?_,λk hk h1 h2=>?_,λo' ho=>?_,λo'=>?_,?_⟩,hc,hf⟩
 ·refine uN (by simpa using hown) (λk hk=>Below.heap_setCell _ _ _ _ ?_);simp [Value.ownBlock] at hk;show k≠bq;omega
 ·exact hg.os
 ·exact hg.tape
 ·exact hg.output
 ·have:(w1.setCell ⟨bq,oq,none⟩ (.slice (some ⟨g,0,none⟩) (L.length+1) cap)).heap.size=w1.heap.size:=by simp [World.setCell]
  omega
 ·rw[Below.heap_setCell _ _ _ _ (show k≠bq from h1)];exact hb k hk h2
 ·rw[uC _ (.inr (λe=>ho e.symm))];exact World.cell?_of_block (a:=⟨bq,o',none⟩) hbq
 ·rw[World.frozen?_setCell];exact World.frozen?_of_block (a:=⟨bq,o',none⟩) hbq
 ·rcases hat with e | e
  ·exact .inl e.symm
  ·exact .inr ⟨g,rfl,by omega⟩
theorem b3h(w:World)(base bq oq:Nat)(v:Value)(L:List Int)(x:Int)(h:eK w base bq oq v L)(hb:base<=w.heap.size)(ho:Ho L)(hn:L.length<=1000000000):
  Calls Tryz.prog 107 #[.pointer (some ⟨bq,oq,none⟩),.int .i64 x] w λe w'=>e=.returned (.tuple #[])/\∃v' L',eK w' base bq oq v' L'/\Ho L'/\L'.Perm (x::L)/\QFr bq oq v v' w w':=by
 obtain⟨i0,hi,hz0,hz1,hz2⟩:=info_parts infoInt;have hd:=h.hd;have hf:=h.hf;have hlt:=h.hlt;have HL:=uU h;have HO:=uU (a8y.V ho x);clear h ho;go_enter Tryz.func107,Tryz.ntmps107;go_wp2_with (at_builtin;refine wpList_append_lies _ rfl _ _ 32 rfl base 3 i0 (.int .i64 0) 1 8 Tryz.underlying32 hi hz0 hz1 hz2 rfl (by decide) v L.length (L.map iv) rfl (HL.own.alloc _) ⟨w.heap.size,0,none⟩ 1 1 [.int .i64 x] rfl rfl ?c1 ?c2 (by decide) ?c3 ?c4 ?c5 (w.heap.size+1) (by simp) ?_)
 case c1=>
  intro j u hj
  match j,hj with
  | 0,hj=>simp at hj;subst hj;simp [Addr.add]
 case c2=>intro u hu;simp at hu;subst hu;rfl
 case c3=>unfold maxLen;omega
 case c4=>omega
 case c5=>simp;omega
 intro g cap w1 hown hgrow hat hglt;obtain⟨P1,P2,P3,P4⟩:=c4r HL hown hgrow hat;have Q1:=uU P1;have Q2:=uU P2;clear hown hgrow hat P1 P2 hd hf;go_wp2_with fail;go_loopw [4] (λsi wr=>∃(a:Nat) (M:List Int),a<M.length/\si=.int .i64 a/\M.length=L.length+1/\eK wr base bq oq (.slice (some ⟨g,0,none⟩) (L.length+1) cap) M/\a8y M a/\M.Perm (x::L)/\QFr bq oq v (.slice (some ⟨g,0,none⟩) (L.length+1) cap) w wr) (λsi _=>(intOf si).toNat)
 case atStart=>exact⟨L.length,L++[x],by simp,by go_num,by simp,Q1,HO,List.perm_append_singleton _ _,Q2⟩
 case round=>
  clear HO HL P3 P4 Q1 Q2;obtain⟨a,M,ha,rfl,hM,hls,hr,hp,hq⟩:=hrel;have HLS:=uU hls;have HR:=uU hr;have HP:=uU hp;have HQ:=uU hq;have hd:=hls.hd;obtain⟨xa,hxa⟩:∃z,it M a=z:=⟨_,rfl⟩;have ca:=hls.cell a ha;rw[hxa] at ca;by_cases h0:0<a
  ·obtain⟨u,hu⟩:∃u,u=(a-1) / 2:=⟨_,rfl⟩;have hum:u<M.length:=by omega
   obtain⟨xu,hxu⟩:∃z,it M u=z:=⟨_,rfl⟩;have cu:=hls.cell u hum;rw[hxu] at cu
   have hq2:((a:Int)-1).tdiv 2=(u:Int):=by
    rw[Int.tdiv_eq_ediv_of_nonneg (by omega)];omega
   have i0:(0:Int)<(a:Int):=by omega
   have i1:(0:Int)<=(a:Int):=by omega
   have i2:(a:Int)<(L.length:Int)+1:=by omega
   have i3:(0:Int)<=(u:Int):=by omega
   have i4:(u:Int)<(L.length:Int)+1:=by omega
   have hua:u<a:=by omega
   have HU:=uU hu;clear hls hr hp hq hu;by_cases hc:xu<=xa
   ·have Y:=uU (a8y.done HR (by rw[<-uH HU,hxu,hxa];exact hc));go_wp2_with fail;go_quiet (fail);go_wp2_with fail
    try simp only [Exit.inBlock,Exit.then]
    refine bodyPost_ret (results_none rfl _ _ _) rfl ?_;exact⟨rfl,_,M,HLS.ext ((Ext.refl _).drewN _),Y,HP,HQ.drewN _⟩
   ·have hc2:decide (xu<=xa)=false:=decide_eq_false hc;have hc3:xa<xu:=by omega
    have R2:=uU (a8y.up HR h0 ha HU (by rw[hxu,hxa];exact hc3));clear hc hc3;go_wp2_with fail;go_quiet (fail);go_wp2_with fail;refine(c2s _ base bq oq g (L.length+1) cap u a M (HLS.ext ((Ext.refl _).drewN _)) (by omega) (by omega)).mono ?_;rintro e w2 ⟨rfl,ls2,q2⟩;have LS2:=uU ls2;have QF2:=uU ((HQ.drewN _).trans q2);clear ls2 q2;go_wp2_with fail;go_roundw
    case rel=>exact⟨u,swp M u a,by rw[a0t];omega,by go_num,by rw[a0t];omega,LS2,R2,(a3q M u a hum ha).trans HP,QF2⟩
    case measure=>simp [intOf];omega
  ·have h00:a=0:=by omega
   subst h00;have Y:=uU (a8y.top HR);clear hls hr hp hq;go_wp2_with fail
   go_end0
   exact⟨rfl,_,M,HLS,Y,HP,HQ⟩
theorem a9p(w:World)(base bq oq g n cap i j:Nat)(I J:Int)(L:List Int)(hI:I=(i:Int))(hJ:J=(j:Int))(h:eK w base bq oq (.slice (some ⟨g,0,none⟩) n cap) L)(hi:i<n)(hj:j<n):
  Calls Tryz.prog 171 #[.pointer (some ⟨bq,oq,none⟩),.int .i64 I,.int .i64 J] w λe w'=>e=.returned (.tuple #[])/\eK w' base bq oq (.slice (some ⟨g,0,none⟩) n cap) (swp L i j)/\QFr bq oq (.slice (some ⟨g,0,none⟩) n cap) (.slice (some ⟨g,0,none⟩) n cap) w w':=by
 subst hI;subst hJ;exact c2s w base bq oq g n cap i j L h hi hj
theorem sink_ls(w:World)(base bq oq g n cap:Nat)(L:List Int)(h:eK w base bq oq (.slice (some ⟨g,0,none⟩) n cap) L)(hF:a5c L 0)(hn:n<=1000000000):
  Calls Tryz.prog 249 #[.pointer (some ⟨bq,oq,none⟩)] w λe w'=>e=.returned (.tuple #[])/\∃L',eK w' base bq oq (.slice (some ⟨g,0,none⟩) n cap) L'/\Ho L'/\L'.Perm L/\QFr bq oq (.slice (some ⟨g,0,none⟩) n cap) (.slice (some ⟨g,0,none⟩) n cap) w w':=by
 have hl:=h.len.1;have hlc:=h.len.2;have HL:=uU h;have HFF:=uU hF;clear h hF;go_enter Tryz.func249,Tryz.ntmps249;go_wp2_with fail;go_loopw [2] (λsi wr=>∃(a:Nat) (M:List Int),a<=n/\si=.int .i64 a/\M.length=n/\eK wr base bq oq (.slice (some ⟨g,0,none⟩) n cap) M/\a5c M a/\M.Perm L/\QFr bq oq (.slice (some ⟨g,0,none⟩) n cap) (.slice (some ⟨g,0,none⟩) n cap) w wr) (λsi _=>n-(intOf si).toNat)
 case atStart=>exact⟨0,L,Nat.zero_le _,rfl,hl.symm,HL,HFF,List.Perm.refl _,QFr.refl _ _ _ _⟩
 case round=>
  clear HFF HL hl;obtain⟨a,M,ha,rfl,hM,hls,hr,hp,hq⟩:=hrel;have HLS:=uU hls;have HR:=uU hr;have HP:=uU hp;have HQ:=uU hq;have hd:=hls.hd;have i0:(0:Int)<=(a:Int):=by omega
  have i1:(a:Int)<=1000000000:=by omega
  by_cases hb:n<=2*a+1
  ·have hb2:(n:Int)<=2*(a:Int)+1:=by omega
   have Y:=uU (a5c.bottom HR (by omega));clear hls hr hp hq hb;go_wp2_with fail
   try simp only [Exit.inBlock,Exit.then]
   refine bodyPost_ret (results_none rfl _ _ _) rfl ?_;exact⟨rfl,M,HLS,Y,HP,HQ⟩
  ·have hb2:¬(n:Int)<=2*(a:Int)+1:=by omega
   have hb3:2*(a:Int)+1<(n:Int):=by omega
   have j0:(0:Int)<=2*(a:Int)+1:=by omega
   have j1:(2*(a:Int)+1).toNat=2*a+1:=by omega
   have j2:(a:Int)<(n:Int):=by omega
   have hwr:IntKind.i64.wrap (2*(a:Int)+1+1)=2*(a:Int)+2:=by rw[IntKind.wrap_i64];omega
   obtain⟨xa,hxa⟩:∃z,it M a=z:=⟨_,rfl⟩;have ca:=hls.cell a (by omega);rw[hxa] at ca;obtain⟨xl,hxl⟩:∃z,it M (2*a+1)=z:=⟨_,rfl⟩;have cl:=hls.cell (2*a+1) (by omega);rw[hxl] at cl;by_cases hr2:2*a+2<n
   ·obtain⟨xr,hxr⟩:∃z,it M (2*a+2)=z:=⟨_,rfl⟩;have cr:=hls.cell (2*a+2) (by omega);rw[hxr] at cr;have k0:2*(a:Int)+2<(n:Int):=by omega
    have k1:(0:Int)<=2*(a:Int)+2:=by omega
    have k2:(2*(a:Int)+2).toNat=2*a+2:=by omega
    by_cases ht:xr<xl
    ·have LE:=uU (a3d.right (by omega) (by rw[hxr,hxl];exact ht):a3d M a (2*a+2));clear hls hr hp hq hb;by_cases hc:xa<=xr
     ·have Y:=uU (a5c.done HR LE (by rw[hxa,hxr];exact hc));go_wp2_with fail;go_quiet (fail);go_wp2_with fail;go_quiet (fail);go_wp2_with fail
      try simp only [Exit.inBlock,Exit.then]
      refine bodyPost_ret (results_none rfl _ _ _) rfl ?_;exact⟨rfl,M,HLS.ext (by first | exact((Ext.refl _).drewN _).drewN _ | exact(Ext.refl _).drewN _),Y,HP,by first | exact(HQ.drewN _).drewN _ | exact HQ.drewN _⟩
     ·have hc2:decide (xa<=xr)=false:=decide_eq_false hc;have hc3:xr<xa:=by omega
      have R2:=uU (a5c.down HR LE (by rw[hxa,hxr];exact hc3));have sl:2*a+2<M.length:=LE.2.1;have ez:((2*a+2:Nat):Int)=2*(a:Int)+2:=by omega
      clear hc hc3;go_wp2_with fail;go_quiet (fail);go_wp2_with fail;go_quiet (fail);go_wp2_with fail;refine(a9p _ base bq oq g n cap a (2*a+2) (a:Int) (2*(a:Int)+2) M rfl ez.symm (HLS.ext (by first | exact((Ext.refl _).drewN _).drewN _ | exact(Ext.refl _).drewN _)) (by omega) (by omega)).mono ?_;rintro e w2 ⟨rfl,ls2,q2⟩;have LS2:=uU ls2;have QF2:=uU (QFr.trans (by first | exact(HQ.drewN _).drewN _ | exact HQ.drewN _) q2);clear ls2 q2;go_wp2_with fail;go_roundw
      case rel=>exact⟨2*a+2,swp M a (2*a+2),by omega,by go_num,by rw[a0t];omega,LS2,R2,(a3q M a (2*a+2) (by omega) sl).trans HP,QF2⟩
      case measure=>simp [intOf];omega
    ·have LE:=uU (a3d.left (by omega) (λ_=>by rw[hxr,hxl];omega):a3d M a (2*a+1));have ht2:decide (xr<xl)=false:=decide_eq_false ht;clear hls hr hp hq hb ht;by_cases hc:xa<=xl
     ·have Y:=uU (a5c.done HR LE (by rw[hxa,hxl];exact hc));go_wp2_with fail;go_quiet (fail);go_wp2_with fail;go_quiet (fail);go_wp2_with fail
      try simp only [Exit.inBlock,Exit.then]
      refine bodyPost_ret (results_none rfl _ _ _) rfl ?_;exact⟨rfl,M,HLS.ext (by first | exact((Ext.refl _).drewN _).drewN _ | exact(Ext.refl _).drewN _),Y,HP,by first | exact(HQ.drewN _).drewN _ | exact HQ.drewN _⟩
     ·have hc2:decide (xa<=xl)=false:=decide_eq_false hc;have hc3:xl<xa:=by omega
      have R2:=uU (a5c.down HR LE (by rw[hxa,hxl];exact hc3));have sl:2*a+1<M.length:=LE.2.1;have ez:((2*a+1:Nat):Int)=2*(a:Int)+1:=by omega
      clear hc hc3;go_wp2_with fail;go_quiet (fail);go_wp2_with fail;go_quiet (fail);go_wp2_with fail;refine(a9p _ base bq oq g n cap a (2*a+1) (a:Int) (2*(a:Int)+1) M rfl ez.symm (HLS.ext (by first | exact((Ext.refl _).drewN _).drewN _ | exact(Ext.refl _).drewN _)) (by omega) (by omega)).mono ?_;rintro e w2 ⟨rfl,ls2,q2⟩;have LS2:=uU ls2;have QF2:=uU (QFr.trans (by first | exact(HQ.drewN _).drewN _ | exact HQ.drewN _) q2);clear ls2 q2;go_wp2_with fail;go_roundw
      case rel=>exact⟨2*a+1,swp M a (2*a+1),by omega,by go_num,by rw[a0t];omega,LS2,R2,(a3q M a (2*a+1) (by omega) sl).trans HP,QF2⟩
      case measure=>simp [intOf];omega
   ·have LE:=uU (a3d.left (by omega) (λq=>by omega):a3d M a (2*a+1));have hr3:decide (2*(a:Int)+2<(n:Int))=false:=decide_eq_false (by omega);clear hls hr hp hq hb hr2;by_cases hc:xa<=xl
    ·have Y:=uU (a5c.done HR LE (by rw[hxa,hxl];exact hc));go_wp2_with fail;go_quiet (fail);go_wp2_with fail;go_quiet (fail);go_wp2_with fail
     try simp only [Exit.inBlock,Exit.then]
     refine bodyPost_ret (results_none rfl _ _ _) rfl ?_;exact⟨rfl,M,HLS.ext (by first | exact((Ext.refl _).drewN _).drewN _ | exact(Ext.refl _).drewN _),Y,HP,by first | exact(HQ.drewN _).drewN _ | exact HQ.drewN _⟩
    ·have hc2:decide (xa<=xl)=false:=decide_eq_false hc;have hc3:xl<xa:=by omega
     have R2:=uU (a5c.down HR LE (by rw[hxa,hxl];exact hc3));have sl:2*a+1<M.length:=LE.2.1;have ez:((2*a+1:Nat):Int)=2*(a:Int)+1:=by omega
     clear hc hc3;go_wp2_with fail;go_quiet (fail);go_wp2_with fail;go_quiet (fail);go_wp2_with fail;refine(a9p _ base bq oq g n cap a (2*a+1) (a:Int) (2*(a:Int)+1) M rfl ez.symm (HLS.ext (by first | exact((Ext.refl _).drewN _).drewN _ | exact(Ext.refl _).drewN _)) (by omega) (by omega)).mono ?_;rintro e w2 ⟨rfl,ls2,q2⟩;have LS2:=uU ls2;have QF2:=uU (QFr.trans (by first | exact(HQ.drewN _).drewN _ | exact HQ.drewN _) q2);clear ls2 q2;go_wp2_with fail;go_roundw
     case rel=>exact⟨2*a+1,swp M a (2*a+1),by omega,by go_num,by rw[a0t];omega,LS2,R2,(a3q M a (2*a+1) (by omega) sl).trans HP,QF2⟩
     case measure=>simp [intOf];omega
theorem c4s(w:World)(base bq oq:Nat)(v:Value)(L:List Int)(h:eK w base bq oq v L)(hn:L.length=0):
  Calls Tryz.prog 228 #[.pointer (some ⟨bq,oq,none⟩)] w λe w'=>e=.returned (.tuple #[.int .i64 0,.bool false])/\w'=w:=by
 obtain⟨ad,cap,rfl⟩:=h.empty hn;have hd:=h.hd;clear h;go_enter Tryz.func228,Tryz.ntmps228;go_wp2_with fail;refine(a3r _ bq oq ad cap hd).mono ?_;rintro e w1 ⟨rfl,rfl⟩;go_wp2_with fail;go_ret2;exact⟨rfl,rfl⟩
theorem eK.cut{n:Nat}(h:eK w base bq oq (.slice (some ⟨g,0,none⟩) (n+1) cap) L):
  eK (w.setCell ⟨bq,oq,none⟩ (.slice (some ⟨g,0,none⟩) n cap)) base bq oq (.slice (some ⟨g,0,none⟩) n cap) (L.take n)/\
  QFr bq oq (.slice (some ⟨g,0,none⟩) (n+1) cap) (.slice (some ⟨g,0,none⟩) n cap) w (w.setCell ⟨bq,oq,none⟩ (.slice (some ⟨g,0,none⟩) n cap)):=by
 have hne:g≠bq:=λe=>h.apart (by rw[<-e];rfl)
 obtain⟨hl,hc⟩:=h.len;have hsp:L=L.take n++L.drop n:=(List.take_append_drop n L).symm;have hlen:(L.take n).length=n:=by simp;omega
 have how:w.ownsRow base 3 1 (.slice (some ⟨g,0,none⟩) n cap) n ((L.take n).map iv):=by
  refine ownsRow_pop (last:=(L.drop n).map iv) (by simp;omega) ?_;have:=h.own;rw[<-hl] at this;rw[<-List.map_append,List.take_append_drop];exact this
 refine⟨⟨World.cell?_setCell_same _ _ _ h.hd,by rw[World.frozen?_setCell];exact h.hf,?_,λe=>hne (by simpa [Value.ownBlock] using e)⟩,⟨rfl,rfl,rfl,by simp [World.setCell],λk _ h1 _=>Below.heap_setCell _ _ _ _ (show k≠bq from h1),λo ho=>uC _ (.inr (λe=>ho e.symm)),λo=>by rw[World.frozen?_setCell],.inl rfl⟩⟩;rw[hlen];refine uN how (λk hk=>Below.heap_setCell _ _ _ _ ?_);simp [Value.ownBlock] at hk;show k≠bq;omega
theorem b0j(w:World)(base bq oq:Nat)(v:Value)(L:List Int)(h:eK w base bq oq v L)(hn:0<L.length)(hO:Ho L)(hm:L.length<=1000000000):
  Calls Tryz.prog 228 #[.pointer (some ⟨bq,oq,none⟩)] w λe w'=>e=.returned (.tuple #[.int .i64 (it L 0),.bool true])/\∃v' L',eK w' base bq oq v' L'/\Ho L'/\(it L 0::L').Perm L/\QFr bq oq v v' w w':=by
 obtain⟨g,cap,rfl,hg⟩:=h.form hn;obtain⟨n,hn2⟩:∃n,L.length=n+1:=⟨L.length-1,by omega⟩;rw[hn2] at h ⊢;have hlc:=h.len.2;have hd:=h.hd;obtain⟨x0,hx0⟩:∃z,it L 0=z:=⟨_,rfl⟩;have c0:=h.cell 0 hn;rw[hx0] at c0 ⊢;have HL:=uU h;have HF:=uU (a5c.V hO);have HPm:=uU (c3v L hn);have hn3:n<=1000000000:=by omega
 have hcl:b6a L=(swp L 0 n).take n:=by unfold b6a;rw[hn2];simp
 have HCL:=uU hcl;have HN:=uU hn2;have HX:=uU hx0;have i0:(0:Int)<=(n:Int):=by omega
 have i1:(n:Int)<=(cap:Int):=by omega
 clear h hO hn hm hcl hn2 hx0;go_enter Tryz.func228,Tryz.ntmps228;go_wp2_with fail;refine(a1m _ bq oq g 0 (n+1) cap x0 (by omega) hd c0).mono ?_;rintro e w1 ⟨rfl,rfl⟩;go_wp2_with fail;refine(a9p _ base bq oq g (n+1) cap 0 n 0 (n:Int) L rfl rfl HL (by omega) (by omega)).mono ?_;rintro e w2 ⟨rfl,ls2,q2⟩;have LS2:=uU ls2;have hd2:=ls2.hd;have hf2:=ls2.hf;have Q2:=uU q2;clear ls2 q2 hd c0;go_wp2_with fail;have LC:=LS2.cut;rw[<-uH HCL] at LC;refine(sink_ls _ base bq oq g n cap (b6a L) LC.1 HF hn3).mono ?_;rintro e w3 ⟨rfl,L3,ls3,ho3,p3,q3⟩
 have FIN:=uU (show eK w3 base bq oq (.slice (some ⟨g,0,none⟩) n cap) L3/\Ho L3/\(x0::L3).Perm L/\QFr bq oq (.slice (some ⟨g,0,none⟩) (n+1) cap) (.slice (some ⟨g,0,none⟩) n cap) w1 w3 from
  ⟨ls3,ho3,by have:=uH HPm;rw[uH HX] at this;exact(p3.cons x0).trans this,(Q2.trans LC.2).trans q3⟩)
 clear LC ls3 ho3 p3 q3;go_wp2_with fail;go_ret2;exact⟨rfl,_,L3,FIN⟩
theorem b3i(w:World)(base bq oq:Nat)(v:Value)(L:List Int)(h:eK w base bq oq v L)(hO:Ho L)(hm:L.length<=1000000000):
  Calls Tryz.prog 175 #[.pointer (some ⟨bq,oq,none⟩)] w λe w'=>∃r:Bool,Hid (e=.returned (.bool r))/\(r=true↔L.Nodup)/\∃v',QFr bq oq v v' w w':=by
 have HL:=uU h;have HO:=uU hO;clear h hO;go_enter Tryz.func175,Tryz.ntmps175;go_wp2_with fail
 go_loopg [3] (L.length+1) (λgh sd wr=>∃(d:Bool) (v1:Value) (M:List Int),sd=.bool d/\M.length+1<=gh/\M.length<=L.length/\eK wr base bq oq v1 M/\Ho M/\Hid ((d=true/\M.Nodup)↔L.Nodup)/\QFr bq oq v v1 w wr)
 case atStart=>exact⟨true,v,L,rfl,Nat.le_refl _,Nat.le_refl _,HL,HO,by show _↔_;simp,QFr.refl _ _ _ _⟩
 case round=>
  clear HL HO;obtain⟨d,v1,M,rfl,hgh,hML,hls,ho,hnd,hq⟩:=hrel;have HLS:=uU hls;have HO:=uU ho;have HQ:=uU hq;clear hls ho hq;by_cases h0:M.length=0
  ·have E:=uU (show d=true↔L.Nodup by
    have:=uH hnd;rw[List.length_eq_zero_iff.1 h0] at this
    simpa using this)
   clear hnd;go_wp2_with fail;refine(c4s _ base bq oq v1 M HLS h0).mono ?_;rintro e w1 ⟨rfl,rfl⟩;go_wp2_with fail;go_ret;exact⟨d,rfl,E,v1,HQ⟩
  ·go_wp2_with fail;refine(b0j _ base bq oq v1 M HLS (by omega) HO (by omega)).mono ?_;rintro e w1 ⟨rfl,v2,M2,ls2,ho2,p2,q2⟩;have hlen:M2.length+1=M.length:=by have:=p2.length_eq;simpa using this
   have LS2:=uU ls2;have HO2:=uU ho2;have P2:=uU p2;have Q2:=uU (HQ.trans q2);clear q2 ho2 p2;by_cases h2:M2.length=0
   ·obtain⟨ad,cap2,rfl⟩:=ls2.empty h2;have hd2:=ls2.hd
    have S:=uU (show(d=true/\M2.Nodup)↔L.Nodup by
     have e1:=uH hnd;rw[b1z (uH P2) (uH HO) rfl (uH HO2) (.inl (List.length_eq_zero_iff.1 h2))] at e1;exact e1)
    clear ls2 hnd;go_wp2_with fail;refine(a3r _ bq oq ad cap2 hd2).mono ?_;rintro e w2 ⟨rfl,rfl⟩;go_wp2_with fail
    go_roundg (M2.length+1)
    case rel=>exact⟨d,_,M2,rfl,Nat.le_refl _,by omega,LS2,HO2,S,Q2⟩
    case measure=>omega
   ·obtain⟨g2,cap2,rfl,hg2⟩:=ls2.form (by omega);have hd2:=ls2.hd;obtain⟨y0,hy0⟩:∃z,it M2 0=z:=⟨_,rfl⟩;obtain⟨x0,hx0⟩:∃z,it M 0=z:=⟨_,rfl⟩;have cy:=ls2.cell 0 (by omega);rw[hy0] at cy;rw[hx0];cases t:(y0 == x0)
    ·have S:=uU (show(d=true/\M2.Nodup)↔L.Nodup by
      have e1:=uH hnd;have t2:¬y0=x0:=by simpa using t
      rw[b1z (uH P2) (uH HO) rfl (uH HO2) (.inr (by rw[hy0,hx0];exact t2))] at e1;exact e1)
     clear ls2 hnd hy0 hx0;go_wp2_with fail;refine(a1m _ bq oq g2 0 M2.length cap2 y0 (by omega) hd2 cy).mono ?_;rintro e w2 ⟨rfl,rfl⟩;go_wp2_with fail
     go_roundg (M2.length+1)
     case rel=>exact⟨d,_,M2,rfl,Nat.le_refl _,by omega,LS2,HO2,S,Q2⟩
     case measure=>omega
    ·have S:=uU (show(false=true/\M2.Nodup)↔L.Nodup by
      have e1:=uH hnd;have t2:y0=x0:=by simpa using t
      have:=b7n P2 (by omega) (by rw[hy0,hx0];exact t2);constructor
      ·intro f;simp at f
      ·intro f;exact(this (e1.2 f).2).elim)
     clear ls2 hnd hy0 hx0;go_wp2_with fail;refine(a1m _ bq oq g2 0 M2.length cap2 y0 (by omega) hd2 cy).mono ?_;rintro e w2 ⟨rfl,rfl⟩;go_wp2_with fail
     go_roundg (M2.length+1)
     case rel=>exact⟨false,_,M2,rfl,Nat.le_refl _,by omega,LS2,HO2,S,Q2⟩
     case measure=>omega
structure FAt(w:World)(b:Nat)(x:Hp)(base:Nat)(vf:Value)(F:List Int):Prop where
 L:eK w base b 14 vf F
 O:Ho F
 P:F.Perm (a7w x x.A.length)
theorem FAt.ext(h:FAt w b x base vf F)(e:Ext w w'):FAt w' b x base vf F:=⟨h.L.ext e,h.O,h.P⟩
theorem a4w(x:Hp)(k:Nat)(z:Int):z∈a7w x k↔∃i,i<k/\(x.c i).st=0/\(i:Int)=z:=by
 unfold a7w;rw[a1c];simp [yK,a5x]
theorem c7y(P:F.Perm (a7w x x.A.length))(h:F.length=0)(k:Nat)(hk:k<x.A.length):(x.c k).st≠0:=λe=>by
 have:(k:Int)∈F:=P.mem_iff.2 ((a4w _ _ _).2 ⟨k,hk,e,rfl⟩);rw[List.length_eq_zero_iff.1 h] at this;cases this
theorem c7z(P:F.Perm (a7w x x.A.length))(O:Ho F)(h:0<F.length)(t:Nat)(ht:t<x.A.length)(hs:(x.c t).st=1):
  (t:Int)<it F 0↔∀k:Nat,k<t->(x.c k).st≠0:=by
 constructor
 ·intro hl k hk e;have:=O.least (P.mem_iff.2 ((a4w _ _ _).2 ⟨k,by omega,e,rfl⟩));omega
 ·intro ha;obtain⟨i,hi,e,q⟩:=(a4w _ _ _).1 (P.mem_iff.1 (a2n F 0 h));by_cases h1:i<t
  ·exact(ha i h1 e).elim
  ·by_cases h2:i=t
   ·rw[h2] at e;omega
   ·omega
theorem b4i(x:Hp)(b i:Nat)(w:World)(h:VAt w b x ar kr ac kc ag kg an kn)(hF:FAt w b x base vf F)(hi:i<x.A.length)(bn on:Nat)(ha:an=some ⟨bn,on,none⟩):
  Calls Tryz.prog 174 #[.pointer (some ⟨b,0,none⟩),.pointer (some ⟨bn,on+i*2,none⟩)] w λe w'=>∃r:Bool,Hid (e=.returned (.bool r))/\(r=true↔eX x i (x.c i))/\Ext w w':=by
 obtain⟨bn',on',bc,oc,e1,rfl,m0,m1⟩:=h.N i hi;rw[ha] at e1;cases e1;obtain⟨bc',oc',ap,kp,e2,C⟩:=h.H.cell i hi;cases e2;have c5:=h.H.c5;have n13:=h.n13;have lc:=h.H.lc;have p6:=C.p6;have HB:=uU (λn s (hs:b1f (x.c i)=s)=>bare_is (x.c i) bn (on+i*2) bc (oc+i*8) ap kp s hs (w.drewN n) (((Ext.refl w).drewN n).keep m1) (C.ext ((Ext.refl w).drewN n)));clear C;have hi0:(0:Int)<=(i:Int):=by omega
 have HV:=uU h;have HFF:=uU hF;subst ha;clear h hF;cases t1:decide (x.E<4)
 ·have t1':=of_decide_eq_false t1;cases t2:b1f (x.c i)
  ·have N:=uU (show ¬eX x i (x.c i) from λm=>by have:=a7k.2 m.1;rw[this] at t2;simp at t2);go_enter Tryz.func174,Tryz.ntmps174;go_wp2_with fail;go_quiet ((go_at_call 172;exact Calls.quiet_of_same (HB _ _ t2)));go_wp2_with fail;go_ret;exact⟨false,rfl,⟨λf=>by simp at f,λr=>(N r).elim⟩,(Ext.refl w).drewN _⟩
  ·cases t3:uX (x.c i).to 0 ((i:Int)-1)
   ·have N:=uU (show ¬eX x i (x.c i) from λm=>by have:=a0b t3;have:=m.2.2.1;have:=m.2.2.2.1;omega);go_enter Tryz.func174,Tryz.ntmps174;go_wp2_with fail;go_quiet (first | (go_at_call 172;exact Calls.quiet_of_same (HB _ _ t2)) | (go_at_call 78;refine Calls.quiet_of_same (uJ _ _ _ false ?_ _);assumption));go_wp2_with fail;go_ret;exact⟨false,rfl,⟨λf=>by simp at f,λr=>(N r).elim⟩,(Ext.refl w).drewN _⟩
   ·obtain⟨t,htn⟩:∃t:Nat,(x.c i).to=(t:Int):=⟨(x.c i).to.toNat,by have:=uK t3;omega⟩;have ht3:=uK t3;have hti:t<i:=by omega
    have htl:t<x.A.length:=by omega
    obtain⟨bn2,on2,bc2,oc2,e1,e2,k0,k1⟩:=HV.N t htl;cases e1;cases e2;obtain⟨bc3,oc3,ap3,kp3,e3,C3⟩:=HV.H.cell t htl;cases e3;have s0:=C3.p0;have ht0:(0:Int)<=(t:Int):=by omega
    have ht1:(t:Int)<(x.A.length:Int):=by omega
    rw[htn] at p6 t3;have HTN:=uU htn;have BB:=uU (a7k.1 t2);have PH:=uU (show 4<=x.E by omega);clear C3 k0 htn ht3;cases t4:((x.c t).st == 1)
    ·have N:=uU (show ¬eX x i (x.c i) from λm=>by have:=m.2.2.2.2.1;rw[uH HTN] at this;simp at this t4;omega);have t4b:((x.c t).st != 1)=true:=by simpa using t4
     go_enter Tryz.func174,Tryz.ntmps174;go_wp2_with fail;go_quiet (first | (go_at_call 172;exact Calls.quiet_of_same (HB _ _ t2)) | (go_at_call 78;refine Calls.quiet_of_same (uJ _ _ _ true ?_ _);assumption));go_wp2_with fail;go_quiet (fail);go_wp2_with fail;go_ret;exact⟨false,rfl,⟨λf=>by simp at f,λr=>(N r).elim⟩,by first | exact((Ext.refl w).drewN _).drewN _ | exact(Ext.refl w).drewN _⟩
    ·have t4b:((x.c t).st != 1)=false:=by simpa using t4
     have T4:=uU (show(x.c t).st=1 by simpa using t4);have MK:=uU (show(x.E=4->∀k:Nat,k<t->(x.c k).st≠0)->eX x i (x.c i) from λhg=>⟨BB,PH,by rw[uH HTN];omega,by rw[uH HTN];omega,by rw[uH HTN];simpa using uH T4,λp k hk=>hg p k (by rw[uH HTN] at hk;omega)⟩);have MG:=uU (show eX x i (x.c i)->x.E=4->∀k:Nat,k<t->(x.c k).st≠0 from λm p k hk=>m.2.2.2.2.2 p k (by rw[uH HTN];omega));by_cases f0:F.length=0
     ·obtain⟨ad,cap,rfl⟩:=HFF.L.empty f0;have hd:=HFF.L.hd;have Y:=uU (MK λ_ k hk=>c7y HFF.P f0 k (by omega));cases t5:(x.E == 4)
      ·have t5b:(x.E != 4)=true:=by simpa using t5
       go_enter Tryz.func174,Tryz.ntmps174;go_wp2_with fail;go_quiet (first | (go_at_call 172;exact Calls.quiet_of_same (HB _ _ t2)) | (go_at_call 78;refine Calls.quiet_of_same (uJ _ _ _ true ?_ _);assumption));go_wp2_with fail;go_quiet (fail);go_wp2_with fail;refine(a3r (w.drewN _) b 14 ad cap (((Ext.refl w).drewN _).keep hd)).mono ?_;rintro e w1 ⟨rfl,rfl⟩;go_wp2_with fail;go_ret;exact⟨true,rfl,⟨λ_=>uH Y,λ_=>rfl⟩,by first | exact((Ext.refl w).drewN _).drewN _ | exact(Ext.refl w).drewN _⟩
      ·have t5b:(x.E != 4)=false:=by simpa using t5
       go_enter Tryz.func174,Tryz.ntmps174;go_wp2_with fail;go_quiet (first | (go_at_call 172;exact Calls.quiet_of_same (HB _ _ t2)) | (go_at_call 78;refine Calls.quiet_of_same (uJ _ _ _ true ?_ _);assumption));go_wp2_with fail;go_quiet (fail);go_wp2_with fail;refine(a3r (w.drewN _) b 14 ad cap (((Ext.refl w).drewN _).keep hd)).mono ?_;rintro e w1 ⟨rfl,rfl⟩;go_wp2_with fail;go_ret;exact⟨true,rfl,⟨λ_=>uH Y,λ_=>rfl⟩,by first | exact((Ext.refl w).drewN _).drewN _ | exact(Ext.refl w).drewN _⟩
     ·obtain⟨g,cap,rfl,hgb⟩:=HFF.L.form (by omega);have hd:=HFF.L.hd;have GS:=uU (c7z HFF.P HFF.O (by omega) t htl T4);have cy:=HFF.L.cell 0 (by omega);obtain⟨y0,hy0⟩:∃z,it F 0=z:=⟨_,rfl⟩;rw[hy0] at cy;cases t5:(x.E == 4)
      ·have t5b:(x.E != 4)=true:=by simpa using t5
       have Y:=uU (MK λp=>by rw[p] at t5;simp at t5);clear hy0;go_enter Tryz.func174,Tryz.ntmps174;go_wp2_with fail;go_quiet (first | (go_at_call 172;exact Calls.quiet_of_same (HB _ _ t2)) | (go_at_call 78;refine Calls.quiet_of_same (uJ _ _ _ true ?_ _);assumption));go_wp2_with fail;go_quiet (fail);go_wp2_with fail;refine(a1m (w.drewN _) b 14 g 0 F.length cap y0 (by omega) (((Ext.refl w).drewN _).keep hd) (((Ext.refl w).drewN _).keep cy)).mono ?_;rintro e w1 ⟨rfl,rfl⟩;go_wp2_with fail;go_ret;exact⟨true,rfl,⟨λ_=>uH Y,λ_=>rfl⟩,by first | exact((Ext.refl w).drewN _).drewN _ | exact(Ext.refl w).drewN _⟩
      ·have t5b:(x.E != 4)=false:=by simpa using t5
       have P4:=uU (show x.E=4 by simpa using t5);cases t6:decide ((t:Int)<y0)
       ·have N:=uU (show ¬eX x i (x.c i) from λm=>of_decide_eq_false t6 (by rw[<-hy0];exact GS.2 (MG m P4)));clear hy0;go_enter Tryz.func174,Tryz.ntmps174;go_wp2_with fail;go_quiet (first | (go_at_call 172;exact Calls.quiet_of_same (HB _ _ t2)) | (go_at_call 78;refine Calls.quiet_of_same (uJ _ _ _ true ?_ _);assumption));go_wp2_with fail;go_quiet (fail);go_wp2_with fail;refine(a1m (w.drewN _) b 14 g 0 F.length cap y0 (by omega) (((Ext.refl w).drewN _).keep hd) (((Ext.refl w).drewN _).keep cy)).mono ?_;rintro e w1 ⟨rfl,rfl⟩;go_wp2_with fail;go_ret;exact⟨false,rfl,⟨λf=>by simp at f,λr=>(N r).elim⟩,by first | exact((Ext.refl w).drewN _).drewN _ | exact(Ext.refl w).drewN _⟩
       ·have Y:=uU (MK λ_=>GS.1 (by rw[hy0];exact of_decide_eq_true t6));have t6b:=of_decide_eq_true t6;clear hy0 t6;go_enter Tryz.func174,Tryz.ntmps174;go_wp2_with fail;go_quiet (first | (go_at_call 172;exact Calls.quiet_of_same (HB _ _ t2)) | (go_at_call 78;refine Calls.quiet_of_same (uJ _ _ _ true ?_ _);assumption));go_wp2_with fail;go_quiet (fail);go_wp2_with fail;refine(a1m (w.drewN _) b 14 g 0 F.length cap y0 (by omega) (((Ext.refl w).drewN _).keep hd) (((Ext.refl w).drewN _).keep cy)).mono ?_;rintro e w1 ⟨rfl,rfl⟩;go_wp2_with fail;go_ret;exact⟨true,rfl,⟨λ_=>uH Y,λ_=>rfl⟩,by first | exact((Ext.refl w).drewN _).drewN _ | exact(Ext.refl w).drewN _⟩
 ·have N:=uU (show ¬eX x i (x.c i) from λm=>by have:=m.2.1;have:=of_decide_eq_true t1;omega);have t1b:=of_decide_eq_true t1;clear t1;go_enter Tryz.func174,Tryz.ntmps174;go_wp2_with fail;go_quiet (fail);go_wp2_with fail;go_ret;exact⟨false,rfl,⟨λf=>by simp at f,λr=>(N r).elim⟩,(Ext.refl w).drewN _⟩
theorem a2g:a1v x=true↔uD x:=by simp [a1v,uD]
theorem a8m(x:Hp)(b:Nat)(s:Bool)(hs:a1v x=s)(w:World)(c5:w.cell? ⟨b,5,none⟩=some (iv x.E)):
  Calls Tryz.prog 145 #[.pointer (some ⟨b,0,none⟩)] w λe w'=>e=.returned (.bool s)/\w'=w:=by
 rw[<-hs];exact b1e x b w c5
def a0s(x:Hp)(i:Nat):Bool:=a1v x || ((x.E == 3) && decide (x.I<=(i:Int)))
theorem a7y{i:Nat}:a0s x i=true↔a3s x i:=by
 simp [a0s,a3s,a2g]
theorem b3j(x:Hp)(b bn q i:Nat)(w:World)(c5:w.cell? ⟨b,5,none⟩=some (iv x.E))(c6:w.cell? ⟨b,6,none⟩=some (iv x.I))(m0:w.cell? ⟨bn,q,none⟩=some (iv i)):
  Calls Tryz.prog 180 #[.pointer (some ⟨b,0,none⟩),.pointer (some ⟨bn,q,none⟩)] w λe w'=>e=.returned (.bool (a0s x i))/\Ext w w':=by
 have HM:=uU (λn s (hs:a1v x=s)=>a8m x b s hs (w.drewN n) (((Ext.refl w).drewN n).keep c5));cases t1:a1v x
 ·cases t2:(x.E == 3)
  ·have E:=uU (show a0s x i=false by simp [a0s,t1,t2]);go_enter Tryz.func180,Tryz.ntmps180;go_wp2_with fail;go_quiet ((go_at_call 145;exact Calls.quiet_of_same (HM _ _ t1)));go_wp2_with fail;go_ret;exact⟨by rw[uH E];rfl,(Ext.refl w).drewN _⟩
  ·by_cases t3:x.I<=(i:Int)
   ·have E:=uU (show a0s x i=true by simp [a0s,t2,t3]);go_enter Tryz.func180,Tryz.ntmps180;go_wp2_with fail;go_quiet ((go_at_call 145;exact Calls.quiet_of_same (HM _ _ t1)));go_wp2_with fail;go_ret;exact⟨by rw[uH E];rfl,(Ext.refl w).drewN _⟩
   ·have E:=uU (show a0s x i=false by simp [a0s,t1];omega);have t3b:decide (x.I<=(i:Int))=false:=decide_eq_false t3;clear t3;go_enter Tryz.func180,Tryz.ntmps180;go_wp2_with fail;go_quiet ((go_at_call 145;exact Calls.quiet_of_same (HM _ _ t1)));go_wp2_with fail;go_ret;exact⟨by rw[uH E];rfl,(Ext.refl w).drewN _⟩
 ·have E:=uU (show a0s x i=true by simp [a0s,t1]);go_enter Tryz.func180,Tryz.ntmps180;go_wp2_with fail;go_quiet ((go_at_call 145;exact Calls.quiet_of_same (HM _ _ t1)));go_wp2_with fail;go_ret;exact⟨by rw[uH E];rfl,(Ext.refl w).drewN _⟩
def b6p(x:Hp):Prop:=(∀g,g∈x.D->(0<=g/\g<x.A.length)/\(x.c g.toNat).J=1)/\x.D.Nodup
theorem b6q(x:Hp)(k:Nat)(h:k<x.D.length):x.D[k]=it x.D k:=a8x _ _ h
theorem a9q(x:Hp)(b:Nat)(w:World)(h:VAt w b x ar kr ac kc ag kg an kn)(hn:x.D.length<=8000):
  Calls Tryz.prog 181 #[.pointer (some ⟨b,0,none⟩)] w λe w'=>∃r:Bool,Hid (e=.returned (.bool r))/\(r=true↔b6p x)/\Ext w w':=by
 have c8:=h.H.c8;have hb:b<w.heap.size:=uL c8;have lc:=h.H.lc;have HV:=uU h;clear h;go_enter Tryz.func181,Tryz.ntmps181;go_wp2_with fail;go_loopw [12] (λi wr=>∃(k:Nat) (v1:Value) (L1:List Int),k<=x.D.length/\i=.int .i64 k/\Hid (∀j,j<k->(0<=it x.D j/\it x.D j<x.A.length)/\(x.c (it x.D j).toNat).J=1)/\eK wr w.heap.size w.heap.size 0 v1 L1/\Ho L1/\L1.Perm (x.D.take k)/\Ext w wr) (λi _=>x.D.length-(intOf i).toNat)
 case atStart=>exact⟨0,_,[],Nat.zero_le _,rfl,λj hj=>by omega,eK.nil (by simp [go_sem]) (by simp [go_sem]),Ho.nil,by simp,(Ext.refl w).alloc _⟩
 case round=>
  clear c8;obtain⟨k,v1,L1,hk,rfl,HA,ls,ho,hp,hbl⟩:=hrel;have HLS:=uU ls;have HO:=uU ho;have HP:=uU hp;have hlen:L1.length<=1000000000:=by have:=hp.length_eq;simp at this;omega
  clear ls ho hp;by_cases hlt:k<x.D.length
  ·have hv:=HV.ext hbl;obtain⟨bg,og,rfl,pg⟩:=hv.H.G k hlt;unfold yD at pg;rw[b6q x k hlt] at pg;have d13:=hv.n13;have HV1:=uU hv;have hk0:(0:Int)<=(k:Int):=by omega
   have hk1:(k:Int)<(x.D.length:Int):=by omega
   obtain⟨y,hy⟩:∃z,it x.D k=z:=⟨_,rfl⟩;rw[hy] at pg;have HY:=uU hy;have MEM:=uU (show y∈x.D by rw[<-hy];exact a2n _ _ hlt);have hbs:w.heap.size<=wr.heap.size:=hbl.size;clear hv hy;simp only [Nat.mul_one] at pg;cases t1:uX y 0 ((x.A.length:Int)-1)
   ·have N:=uU (show ¬b6p x from λr=>by have:=a0b t1;have:=(r.1 y MEM).1;omega);go_wp2_with fail;refine(uJ _ _ _ false t1 _).mono ?_;rintro e w2 ⟨rfl,rfl⟩;go_wp2_with fail;go_ret;exact⟨false,rfl,⟨λf=>by simp at f,λr=>(N r).elim⟩,hbl⟩
   ·obtain⟨i,hi⟩:∃i:Nat,y=(i:Int):=⟨y.toNat,by have:=uK t1;omega⟩;subst hi;have hin:i<x.A.length:=by have:=uK t1;omega
    obtain⟨bn,on,bc,oc,e1,e2,m0,m1⟩:=HV1.N i hin;subst e1;subst e2;obtain⟨bc2,oc2,ap,kp,e3,C⟩:=HV1.H.cell i hin;cases e3;have p5:=C.p5;have hi0:(0:Int)<=(i:Int):=by omega
    have hi1:(i:Int)<(x.A.length:Int):=by omega
    clear C m0;cases t2:((x.c i).J == 1)
    ·have t2b:((x.c i).J != 1)=true:=by simpa using t2
     have N:=uU (show ¬b6p x from λr=>by have:=(r.1 _ MEM).2;simp at this t2;omega);go_wp2_with fail;refine(uJ _ _ _ true t1 _).mono ?_;rintro e w2 ⟨rfl,rfl⟩;go_wp2_with fail;go_ret;exact⟨false,rfl,⟨λf=>by simp at f,λr=>(N r).elim⟩,hbl⟩
    ·have t2b:((x.c i).J != 1)=false:=by simpa using t2
     have OK:=uU (show ∀j,j<k+1->(0<=it x.D j/\it x.D j<x.A.length)/\(x.c (it x.D j).toNat).J=1 from λj hj=>by
      by_cases e:j=k
      ·rw[e,uH HY];exact⟨⟨hi0,hi1⟩,by simpa using t2⟩
      ·exact HA j (by omega))
     have TK:=uU (show x.D.take (k+1)=x.D.take k++[(i:Int)] by
      rw[<-uH HY,<-b6q x k hlt];exact(List.take_append_getElem hlt).symm)
     go_wp2_with fail;refine(uJ _ _ _ true t1 _).mono ?_;rintro e w2 ⟨rfl,rfl⟩;go_wp2_with fail;refine(b3h _ w.heap.size w.heap.size 0 v1 L1 (i:Int) HLS hbs HO (by omega)).mono ?_;rintro e w3 ⟨rfl,v3,L3,l3,o3,p3,q3⟩
     have R:=uU (show eK w3 w.heap.size w.heap.size 0 v3 L3/\Ho L3/\L3.Perm (x.D.take (k+1))/\Ext w w3 from
      ⟨l3,o3,by rw[uH TK];exact(p3.trans (HP.cons _)).trans (List.perm_append_singleton _ _).symm,q3.ext hbl (Nat.le_refl _) (λk hk=>(HLS.rlt k hk).1)⟩)
     clear l3 o3 p3 q3;go_wp2_with fail;go_roundw
     case rel=>exact⟨k+1,v3,L3,by omega,by go_num,OK,R⟩
     case measure=>simp [intOf];omega
  ·have hk2:k=x.D.length:=by omega
   have P1:=uU (show L1.Nodup↔x.D.Nodup by have:=uH HP;rw[hk2,List.take_length] at this;exact this.nodup_iff)
   have A1:=uU (show ∀g,g∈x.D->(0<=g/\g<x.A.length)/\(x.c g.toNat).J=1 from λg hg=>by
    obtain⟨j,hj,e⟩:=List.getElem_of_mem hg;rw[b6q x j hj] at e;rw[<-e];exact HA j (by omega))
   clear hk2;go_wp2_with fail;refine(b3i _ w.heap.size w.heap.size 0 v1 L1 HLS HO hlen).mono ?_;rintro e w2 ⟨r,rfl,hr,v3,q3⟩;have E2:=uU (q3.ext hbl (Nat.le_refl _) (λk hk=>(HLS.rlt k hk).1));have RR:=uU (show r=true↔b6p x from⟨λe=>⟨A1,P1.1 (hr.1 e)⟩,λq=>hr.2 (P1.2 q.2)⟩);clear q3 hr;go_wp2_with fail;go_ret;exact⟨r,rfl,RR,E2⟩
theorem b3k(x:Hp)(b:Nat)(w:World)(h:VAt w b x ar kr ac kc ag kg an kn)(hn:x.D.length<=8000)(hc:x.A.length<=8000):
  Calls Tryz.prog 111 #[.pointer (some ⟨b,0,none⟩)] w λe w'=>∃r:Bool,Hid (e=.returned (.bool r))/\(r=true↔R5 x)/\Ext w w':=by
 have n13:=h.n13;have c8:=h.H.c8;have HV:=uU h;clear h;go_enter Tryz.func111,Tryz.ntmps111;go_wp2_with fail;go_loopw [3,11] (λs i wr=>∃(k u:Nat),k<=x.A.length/\i=.int .i64 k/\s=.int .i64 u/\u<=k/\Hid (u=(a5r x k).length)/\Hid (∀j,j<k->(x.c j).J=2->a3s x j)/\Ext w wr) (λ_ i _=>x.A.length-(intOf i).toNat)
 case atStart=>exact⟨0,0,Nat.zero_le _,rfl,rfl,Nat.le_refl _,rfl,λj hj=>by omega,Ext.refl _⟩
 case round=>
  clear n13;obtain⟨k,u,hk,rfl,rfl,huk,hu,HA,hbl⟩:=hrel;by_cases hlt:k<x.A.length
  ·have hv:=HV.ext hbl;obtain⟨bn,on,bc,oc,rfl,rfl,m0,m1⟩:=hv.N k hlt;obtain⟨bc2,oc2,ap,kp,e2,C⟩:=hv.H.cell k hlt;cases e2;have p5:=C.p5;have d13:=hv.n13;have HV1:=uU hv;have hk0:(0:Int)<=(k:Int):=by omega
   have hk1:(k:Int)<(x.A.length:Int):=by omega
   clear C hv
   have step:((x.c k).J=2->a3s x k)->Hid (∀j,j<k+1->(x.c j).J=2->a3s x j):=λhc j hj=>by
    by_cases e:j=k
    ·rw[e];exact hc
    ·exact HA j (by omega)
   have ST:=uU step;clear step;cases s1:((x.c k).J == 1)
   ·have U2:=uU (show u=(a5r x (k+1)).length by have:=uH hu;unfold a5r at *;rw[a2p _ _ _ (by simpa [a5y] using s1)];exact this);cases s2:((x.c k).J == 2)
    ·have OK:=uH ST (λe=>by rw[e] at s2;simp at s2);go_wp2_with fail;go_roundw
     case rel=>exact⟨k+1,u,by omega,by go_num,rfl,by omega,U2,OK,hbl⟩
     case measure=>simp [intOf];omega
    ·go_wp2_with fail;refine(b3j x b bn (on+k*2) k _ HV1.H.c5 HV1.H.c6 m0).mono ?_;rintro e w2 ⟨rfl,hq⟩;have x2:=hbl.trans hq;cases tb:a0s x k
     ·have N:=uU (show ¬R5 x from λr=>by
       have:=((a8c x).1 r).1 k hlt (by simpa using s2);rw[<-a7y,tb] at this;simp at this)
      go_wp2_with fail;go_ret;exact⟨false,rfl,⟨λf=>by simp at f,λr=>(N r).elim⟩,x2⟩
     ·have OK:=uH ST (λ_=>a7y.1 tb);go_wp2_with fail;go_roundw
      case rel=>exact⟨k+1,u,by omega,by go_num,rfl,by omega,U2,OK,x2⟩
      case measure=>simp [intOf];omega
   ·have U2:=uU (show u+1=(a5r x (k+1)).length by have:=uH hu;unfold a5r at *;rw[a2o _ _ _ (by simpa [a5y] using s1)];simp;exact this);have OK:=uH ST (λe=>by rw[e] at s1;simp at s1);go_wp2_with fail;go_roundw
    case rel=>exact⟨k+1,u+1,by omega,by go_num,by go_num,by omega,U2,OK,hbl⟩
    case measure=>simp [intOf];omega
  ·have hk2:k=x.A.length:=by omega
   have U:=uU (show u=(a5r x x.A.length).length by have:=uH hu;rw[hk2] at this;exact this);have A1:=uU (show ∀j,j<x.A.length->(x.c j).J=2->a3s x j from λj hj=>uH HA j (by omega));clear hk2 hu HA;have h1:=HV.ext hbl;have d8:=h1.H.c8;have HV1:=uU h1;clear h1;go_wp2_with fail;refine(b1e x b _ HV1.H.c5).mono ?_;rintro e w2 ⟨rfl,rfl⟩;cases tm:a1v x
   ·have NM:=uU (show ¬uD x from λm=>by rw[<-a2g,tm] at m;simp at m);by_cases hu0:0<u
    ·have hu0b:(0:Int)<(u:Int):=by omega
     have N:=uU (show ¬R5 x from λr=>by
      have:=((a8c x).1 r).2.1 NM;have:=uH U;omega)
     go_wp2_with fail;go_ret;exact⟨false,rfl,⟨λf=>by simp at f,λr=>(N r).elim⟩,hbl⟩
    ·have hu0b:u=0:=by omega
     subst hu0b;cases tl:((x.D.length:Int) == 0)
     ·have N:=uU (show ¬R5 x from λr=>by
       have:=((a8c x).1 r).2.2.1;have:=uH U;have tl2:=beq_eq_false_iff_ne.1 tl;omega)
      go_wp2_with fail;go_ret;exact⟨false,rfl,⟨λf=>by simp at f,λr=>(N r).elim⟩,hbl⟩
     ·go_wp2_with fail;refine(a9q x b _ HV1 hn).mono ?_;rintro e w3 ⟨r,rfl,hr,hq⟩;have x3:=hbl.trans hq
      have RR:=uU (show r=true↔R5 x by
       rw[a8c];refine⟨λe=>⟨A1,λ_=>U.symm,?_,(hr.1 e).1,(hr.1 e).2⟩,λq=>hr.2 ⟨q.2.2.2.1,q.2.2.2.2⟩⟩;have:=uH U;simp at tl;rw[tl];exact this)
      clear hr;go_wp2_with fail;go_ret;exact⟨r,rfl,RR,x3⟩
   ·have YM:=uU (a2g.1 tm);cases tl:((x.D.length:Int) == (u:Int))
    ·have N:=uU (show ¬R5 x from λr=>by
      have:=((a8c x).1 r).2.2.1;have:=uH U;simp at tl;omega)
     go_wp2_with fail;go_ret;exact⟨false,rfl,⟨λf=>by simp at f,λr=>(N r).elim⟩,hbl⟩
    ·go_wp2_with fail;refine(a9q x b _ HV1 hn).mono ?_;rintro e w3 ⟨r,rfl,hr,hq⟩;have x3:=hbl.trans hq
     have RR:=uU (show r=true↔R5 x by
      rw[a8c];refine⟨λe=>⟨A1,λnm=>(nm YM).elim,?_,(hr.1 e).1,(hr.1 e).2⟩,λq=>hr.2 ⟨q.2.2.2.1,q.2.2.2.2⟩⟩;have:=uH U;simp at tl;omega)
     clear hr;go_wp2_with fail;go_ret;exact⟨r,rfl,RR,x3⟩
def a4g(w:World)(x:Hp)(ac:Option Addr):Prop:=∀i,i<x.A.length->∀bc oc ad l c,ac=some ⟨bc,oc,none⟩->w.cell? ⟨bc,oc+i*8+7,none⟩=some (.slice ad l c)->l<=c\/l=0
theorem a4g.ext(h:a4g w x ac)(hh:HAt w b x ar kr ac kc ag kg)(e:Ext w w'):a4g w' x ac:=λi hi bc oc ad l c ha hc=>by
 obtain⟨b2,o2,ap,kp,e2,C⟩:=hh.cell i hi;rw[ha] at e2;cases e2;have:=(C.ext e).p7;rw[this] at hc;cases hc;exact h i hi _ _ _ _ _ ha C.p7
theorem a8n(r4:R4 x)(m:uD x)(i k:Nat)(hi:i<x.A.length)(hk:k<(x.c i).F.length):
  (uE ((x.c i).p k).key x.A.length/\uE ((x.c i).p k).val x.A.length)/\(hwB x ((x.c i).p k).key=true↔cZ x ((x.c i).p k).key)/\(hwB x ((x.c i).p k).val=true↔cZ x ((x.c i).p k).val):=by
 have nd:∀j,¬hY x j:=λj d=>by have:=d.1;unfold uD at m;omega
 have hm:cX x i k:=⟨by unfold uD at m;omega,λe=>by unfold uD at m;omega⟩;have hp:=((r4.2 i hi).2 k hk).2 (nd i)
 have key:∀y:Wd,cL x y (¬cX x i k)->(hwB x y=true↔cZ x y):=λy hl=>by
  unfold cZ hwB zN;simp only [Bool.and_eq_true,beq_iff_eq];constructor
  ·intro h;exact⟨h.1,h.2.2⟩
  ·intro h;refine⟨h.1,?_,h.2⟩;rcases hl.2 h.1 with h2 | h2
   ·exact(h2.2 hm).elim
   ·exact h2.1
 exact⟨⟨hp.1.1,hp.2.1⟩,key _ hp.1,key _ hp.2⟩
theorem a1b(r2:R2 x)(i:Nat)(hi:i<x.A.length)(h:cU (x.c i)):(x.c i).st=1:=by
 have:=r2.1 i hi;unfold cU at h;unfold cQ eX yW at this;omega
def R7b(x:Hp):Prop:=
 (∀i,i<x.A.length->¬(a0r (x.c i)=true/\zN (x.c i)=true/\(x.E=2\/(i:Int)<x.I))/\((x.c i).J=2->¬∃k,k<(x.c i).F.length/\(hwB x ((x.c i).p k).key=true\/hwB x ((x.c i).p k).val=true)))
def R7c(x:Hp):Prop:=x.E=2->x.D.length≠0->∀k:Nat,k<x.sub.toNat->¬(hwB x ((x.c x.g0).p k).key=true\/hwB x ((x.c x.g0).p k).val=true)
theorem g0_ok(r5:R5 x)(h:x.D.length≠0):x.g0<x.A.length/\x.D.getD 0 0=(x.g0:Int)/\(x.c x.g0).J=1:=by
 have hm:x.D.getD 0 0∈x.D:=a2n x.D 0 (by omega);have:=((a8c x).1 r5).2.2.2.1 _ hm;unfold Hp.g0;exact⟨by omega,by omega,this.2⟩
theorem R7_iff(r2:R2 x)(r4:R4 x)(r5:R5 x)(r6:R6 x)(m:uD x):R7 x↔R7b x/\R7c x:=by
 have mp:=λi k hi hk=>a8n r4 m i k hi hk
 have hsub:x.E=2->x.D.length≠0->x.sub<=(x.c x.g0).F.length:=λp g=>(r6.2.1 p).2.2 g
 constructor
 ·intro h;have h:=h m;refine⟨λi hi=>⟨λ⟨a,b,c⟩=>?_,λhc ⟨k,hk,hw⟩=>?_⟩,λp g k hk hw=>?_⟩
  ·refine(h i hi).1 ⟨a3b.1 a,?_,c⟩;unfold zN at b;simp at b;exact b.2
  ·have:=(h i hi).2 k (by unfold cC;rw[if_pos hc];exact hk);rcases hw with hw | hw
   ·exact this.1 ((mp i k hi hk).2.1.1 hw)
   ·exact this.2 ((mp i k hi hk).2.2.1 hw)
  ·obtain⟨g1,g2,g3⟩:=g0_ok r5 g;have hs:=hsub p g;have hk2:k<(x.c x.g0).F.length:=by omega
   have:=(h x.g0 g1).2 k (by unfold cC;rw[if_neg (by omega),if_pos ⟨p,g,g2⟩];exact hk);rcases hw with hw | hw
   ·exact this.1 ((mp _ k g1 hk2).2.1.1 hw)
   ·exact this.2 ((mp _ k g1 hk2).2.2.1 hw)
 ·intro⟨hb,hc⟩ _ i hi;refine⟨λ⟨a,b,c⟩=>(hb i hi).1 ⟨a3b.2 a,?_,c⟩,λk hk=>?_⟩
  ·unfold zN;simp;exact⟨a1b r2 i hi a,b⟩
  ·unfold cC at hk;by_cases e1:(x.c i).J=2
   ·rw[if_pos e1] at hk;have:=(hb i hi).2 e1;exact⟨λw=>this ⟨k,hk,.inl ((mp i k hi hk).2.1.2 w)⟩,λw=>this ⟨k,hk,.inr ((mp i k hi hk).2.2.2 w)⟩⟩
   ·rw[if_neg e1] at hk;by_cases e2:x.E=2/\x.D.length≠0/\x.D.getD 0 0=(i:Int)
    ·rw[if_pos e2] at hk;obtain⟨g1,g2,g3⟩:=g0_ok r5 e2.2.1;have hig:i=x.g0:=by have:=e2.2.2;omega
     have hs:=hsub e2.1 e2.2.1;have hk2:k<(x.c i).F.length:=by rw[hig];omega
     have:=hc e2.1 e2.2.1 k hk;rw[<-hig] at this;exact⟨λw=>this (.inl ((mp i k hi hk2).2.1.2 w)),λw=>this (.inr ((mp i k hi hk2).2.2.2 w))⟩
    ·rw[if_neg e2] at hk;omega
end Go.Proofs.YtddkhnclmeikfaaGreat
