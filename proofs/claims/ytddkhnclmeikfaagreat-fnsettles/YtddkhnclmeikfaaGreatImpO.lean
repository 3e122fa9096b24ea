import Derived.Test.YtddkhnclmeikfaaGreatL2d
import Derived.Test.YtddkhnclmeikfaaGreatLsB
set_option maxRecDepth 100000
set_option maxHeartbeats 4000000
namespace Go.Proofs.YtddkhnclmeikfaaGreat
open Go.RowKit
attribute [local go_sem ↓] Go.wp_at_zero Go.wp_at_succ
variable{F:List Int}{base:Nat}{x:Hp}{w:World}{vf:Value}
theorem a9m(w:World)(base bq oq g n cap i j:Nat)(I J:Int)(L:List Int)(hI:I=(i:Int))(hJ:J=(j:Int))(h:eX w base bq oq (.slice (some ⟨g,0,none⟩) n cap) L)(hi:i<n)(hj:j<n):
  Calls Tryz.prog 171 #[.pointer (some ⟨bq,oq,none⟩),.int .i64 I,.int .i64 J] w λe w'=>e=.returned (.tuple #[])/\eX w' base bq oq (.slice (some ⟨g,0,none⟩) n cap) (swp L i j)/\QFr bq oq (.slice (some ⟨g,0,none⟩) n cap) (.slice (some ⟨g,0,none⟩) n cap) w w':=by
 subst hI;subst hJ;exact c3d w base bq oq g n cap i j L h hi hj
theorem sink_ls(w:World)(base bq oq g n cap:Nat)(L:List Int)(h:eX w base bq oq (.slice (some ⟨g,0,none⟩) n cap) L)(hF:a5m L 0)(hn:n<=1000000000):
  Calls Tryz.prog 249 #[.pointer (some ⟨bq,oq,none⟩)] w λe w'=>e=.returned (.tuple #[])/\∃L',eX w' base bq oq (.slice (some ⟨g,0,none⟩) n cap) L'/\Ho L'/\L'.Perm L/\QFr bq oq (.slice (some ⟨g,0,none⟩) n cap) (.slice (some ⟨g,0,none⟩) n cap) w w':=by
 have hl:=h.len.1;have hlc:=h.len.2;have HL:=uU h;have HFF:=uU hF;clear h hF;go_enter Tryz.func249,Tryz.ntmps249;go_wp2_with fail;go_loopw [2] (λsi wr=>∃(a:Nat) (M:List Int),a<=n/\si=.int .i64 a/\M.length=n/\eX wr base bq oq (.slice (some ⟨g,0,none⟩) n cap) M/\a5m M a/\M.Perm L/\QFr bq oq (.slice (some ⟨g,0,none⟩) n cap) (.slice (some ⟨g,0,none⟩) n cap) w wr) (λsi _=>n-(intOf si).toNat)
 case atStart=>exact⟨0,L,Nat.zero_le _,rfl,hl.symm,HL,HFF,List.Perm.refl _,QFr.refl _ _ _ _⟩
 case round=>
  clear HFF HL hl;obtain⟨a,M,ha,rfl,hM,hls,hr,hp,hq⟩:=hrel;have HLS:=uU hls;have HR:=uU hr;have HP:=uU hp;have HQ:=uU hq;have hd:=hls.hd;have i0:(0:Int)<=(a:Int):=by omega
  have i1:(a:Int)<=1000000000:=by omega
  by_cases hb:n<=2*a+1
  ·have hb2:(n:Int)<=2*(a:Int)+1:=by omega
   have Y:=uU (a5m.bottom HR (by omega));clear hls hr hp hq hb;go_wp2_with fail
   try simp only [Exit.inBlock,Exit.then]
   refine bodyPost_ret (results_none rfl _ _ _) rfl ?_;exact⟨rfl,M,HLS,Y,HP,HQ⟩
  ·have hb2:¬(n:Int)<=2*(a:Int)+1:=by omega
   have hb3:2*(a:Int)+1<(n:Int):=by omega
   have j0:(0:Int)<=2*(a:Int)+1:=by omega
   have j1:(2*(a:Int)+1).toNat=2*a+1:=by omega
   have j2:(a:Int)<(n:Int):=by omega
   have hwr:IntKind.i64.wrap (2*(a:Int)+1+1)=2*(a:Int)+2:=by rw[IntKind.wrap_i64];omega
   obtain⟨xa,hxa⟩:∃z,it M a=z:=⟨_,rfl⟩;have ca:=hls.cell a (by omega);rw[hxa] at ca;obtain⟨xl,hxl⟩:∃z,it M (2*a+1)=z:=⟨_,rfl⟩;have cl:=hls.cell (2*a+1) (by omega);rw[hxl] at cl;by_cases hr2:2*a+2<n
   ·obtain⟨xr,hxr⟩:∃z,it M (2*a+2)=z:=⟨_,rfl⟩;have cr:=hls.cell (2*a+2) (by omega);rw[hxr] at cr;have k0:2*(a:Int)+2<(n:Int):=by omega
    have k1:(0:Int)<=2*(a:Int)+2:=by omega
    have k2:(2*(a:Int)+2).toNat=2*a+2:=by omega
    by_cases ht:xr<xl
    ·have LE:=uU (a3k.right (by omega) (by rw[hxr,hxl];exact ht):a3k M a (2*a+2));clear hls hr hp hq hb;by_cases hc:xa<=xr
     ·have Y:=uU (a5m.done HR LE (by rw[hxa,hxr];exact hc));go_wp2_with fail;go_quiet (fail);go_wp2_with fail;go_quiet (fail);go_wp2_with fail
      try simp only [Exit.inBlock,Exit.then]
      refine bodyPost_ret (results_none rfl _ _ _) rfl ?_;exact⟨rfl,M,HLS.ext (by first | exact((Ext.refl _).drewN _).drewN _ | exact(Ext.refl _).drewN _),Y,HP,by first | exact(HQ.drewN _).drewN _ | exact HQ.drewN _⟩
     ·have hc2:decide (xa<=xr)=false:=decide_eq_false hc;have hc3:xr<xa:=by omega
      have R2:=uU (a5m.down HR LE (by rw[hxa,hxr];exact hc3));have sl:2*a+2<M.length:=LE.2.1;have ez:((2*a+2:Nat):Int)=2*(a:Int)+2:=by omega
      clear hc hc3;go_wp2_with fail;go_quiet (fail);go_wp2_with fail;go_quiet (fail);go_wp2_with fail;refine(a9m _ base bq oq g n cap a (2*a+2) (a:Int) (2*(a:Int)+2) M rfl ez.symm (HLS.ext (by first | exact((Ext.refl _).drewN _).drewN _ | exact(Ext.refl _).drewN _)) (by omega) (by omega)).mono ?_;rintro e w2 ⟨rfl,ls2,q2⟩;have LS2:=uU ls2;have QF2:=uU (QFr.trans (by first | exact(HQ.drewN _).drewN _ | exact HQ.drewN _) q2);clear ls2 q2;go_wp2_with fail;go_roundw
      case rel=>exact⟨2*a+2,swp M a (2*a+2),by omega,by go_num,by rw[a0s];omega,LS2,R2,(a4a M a (2*a+2) (by omega) sl).trans HP,QF2⟩
      case measure=>simp [intOf];omega
    ·have LE:=uU (a3k.left (by omega) (λ_=>by rw[hxr,hxl];omega):a3k M a (2*a+1));have ht2:decide (xr<xl)=false:=decide_eq_false ht;clear hls hr hp hq hb ht;by_cases hc:xa<=xl
     ·have Y:=uU (a5m.done HR LE (by rw[hxa,hxl];exact hc));go_wp2_with fail;go_quiet (fail);go_wp2_with fail;go_quiet (fail);go_wp2_with fail
      try simp only [Exit.inBlock,Exit.then]
      refine bodyPost_ret (results_none rfl _ _ _) rfl ?_;exact⟨rfl,M,HLS.ext (by first | exact((Ext.refl _).drewN _).drewN _ | exact(Ext.refl _).drewN _),Y,HP,by first | exact(HQ.drewN _).drewN _ | exact HQ.drewN _⟩
     ·have hc2:decide (xa<=xl)=false:=decide_eq_false hc;have hc3:xl<xa:=by omega
      have R2:=uU (a5m.down HR LE (by rw[hxa,hxl];exact hc3));have sl:2*a+1<M.length:=LE.2.1;have ez:((2*a+1:Nat):Int)=2*(a:Int)+1:=by omega
      clear hc hc3;go_wp2_with fail;go_quiet (fail);go_wp2_with fail;go_quiet (fail);go_wp2_with fail;refine(a9m _ base bq oq g n cap a (2*a+1) (a:Int) (2*(a:Int)+1) M rfl ez.symm (HLS.ext (by first | exact((Ext.refl _).drewN _).drewN _ | exact(Ext.refl _).drewN _)) (by omega) (by omega)).mono ?_;rintro e w2 ⟨rfl,ls2,q2⟩;have LS2:=uU ls2;have QF2:=uU (QFr.trans (by first | exact(HQ.drewN _).drewN _ | exact HQ.drewN _) q2);clear ls2 q2;go_wp2_with fail;go_roundw
      case rel=>exact⟨2*a+1,swp M a (2*a+1),by omega,by go_num,by rw[a0s];omega,LS2,R2,(a4a M a (2*a+1) (by omega) sl).trans HP,QF2⟩
      case measure=>simp [intOf];omega
   ·have LE:=uU (a3k.left (by omega) (λq=>by omega):a3k M a (2*a+1));have hr3:decide (2*(a:Int)+2<(n:Int))=false:=decide_eq_false (by omega);clear hls hr hp hq hb hr2;by_cases hc:xa<=xl
    ·have Y:=uU (a5m.done HR LE (by rw[hxa,hxl];exact hc));go_wp2_with fail;go_quiet (fail);go_wp2_with fail;go_quiet (fail);go_wp2_with fail
     try simp only [Exit.inBlock,Exit.then]
     refine bodyPost_ret (results_none rfl _ _ _) rfl ?_;exact⟨rfl,M,HLS.ext (by first | exact((Ext.refl _).drewN _).drewN _ | exact(Ext.refl _).drewN _),Y,HP,by first | exact(HQ.drewN _).drewN _ | exact HQ.drewN _⟩
    ·have hc2:decide (xa<=xl)=false:=decide_eq_false hc;have hc3:xl<xa:=by omega
     have R2:=uU (a5m.down HR LE (by rw[hxa,hxl];exact hc3));have sl:2*a+1<M.length:=LE.2.1;have ez:((2*a+1:Nat):Int)=2*(a:Int)+1:=by omega
     clear hc hc3;go_wp2_with fail;go_quiet (fail);go_wp2_with fail;go_quiet (fail);go_wp2_with fail;refine(a9m _ base bq oq g n cap a (2*a+1) (a:Int) (2*(a:Int)+1) M rfl ez.symm (HLS.ext (by first | exact((Ext.refl _).drewN _).drewN _ | exact(Ext.refl _).drewN _)) (by omega) (by omega)).mono ?_;rintro e w2 ⟨rfl,ls2,q2⟩;have LS2:=uU ls2;have QF2:=uU (QFr.trans (by first | exact(HQ.drewN _).drewN _ | exact HQ.drewN _) q2);clear ls2 q2;go_wp2_with fail;go_roundw
     case rel=>exact⟨2*a+1,swp M a (2*a+1),by omega,by go_num,by rw[a0s];omega,LS2,R2,(a4a M a (2*a+1) (by omega) sl).trans HP,QF2⟩
     case measure=>simp [intOf];omega
theorem c4x(w:World)(base bq oq:Nat)(v:Value)(L:List Int)(h:eX w base bq oq v L)(hn:L.length=0):
  Calls Tryz.prog 228 #[.pointer (some ⟨bq,oq,none⟩)] w λe w'=>e=.returned (.tuple #[.int .i64 0,.bool false])/\w'=w:=by
 obtain⟨ad,cap,rfl⟩:=h.empty hn;have hd:=h.hd;clear h;go_enter Tryz.func228,Tryz.ntmps228;go_wp2_with fail;refine(a5n _ bq oq ad cap hd).mono ?_;rintro e w1 ⟨rfl,rfl⟩;go_wp2_with fail;go_ret2;exact⟨rfl,rfl⟩
theorem eX.cut{bq oq g n cap:Nat}{L:List Int}(h:eX w base bq oq (.slice (some ⟨g,0,none⟩) (n+1) cap) L):
  eX (w.setCell ⟨bq,oq,none⟩ (.slice (some ⟨g,0,none⟩) n cap)) base bq oq (.slice (some ⟨g,0,none⟩) n cap) (L.take n)/\
  QFr bq oq (.slice (some ⟨g,0,none⟩) (n+1) cap) (.slice (some ⟨g,0,none⟩) n cap) w (w.setCell ⟨bq,oq,none⟩ (.slice (some ⟨g,0,none⟩) n cap)):=by
 have hne:g≠bq:=λe=>h.apart (by rw[<-e];rfl)
 obtain⟨hl,hc⟩:=h.len;have hsp:L=L.take n++L.drop n:=(List.take_append_drop n L).symm;have hlen:(L.take n).length=n:=by simp;omega
 have how:w.ownsRow base 3 1 (.slice (some ⟨g,0,none⟩) n cap) n ((L.take n).map iv):=by
  refine ownsRow_pop (last:=(L.drop n).map iv) (by simp;omega) ?_;have:=h.own;rw[<-hl] at this;rw[<-List.map_append,List.take_append_drop];exact this
 refine⟨⟨World.cell?_setCell_same _ _ _ h.hd,by rw[World.frozen?_setCell];exact h.hf,?_,λe=>hne (by simpa [Value.ownBlock] using e)⟩,⟨rfl,rfl,rfl,by simp [World.setCell],λk _ h1 _=>Below.heap_setCell _ _ _ _ (show k≠bq from h1),λo ho=>uC _ (.inr (λe=>ho e.symm)),λo=>by rw[World.frozen?_setCell],.inl rfl⟩⟩;rw[hlen];refine uN how (λk hk=>Below.heap_setCell _ _ _ _ ?_);simp [Value.ownBlock] at hk;show k≠bq;omega
theorem c4y(w:World)(base bq oq:Nat)(v:Value)(L:List Int)(h:eX w base bq oq v L)(hn:0<L.length)(hO:Ho L)(hm:L.length<=1000000000):
  Calls Tryz.prog 228 #[.pointer (some ⟨bq,oq,none⟩)] w λe w'=>e=.returned (.tuple #[.int .i64 (it L 0),.bool true])/\∃v' L',eX w' base bq oq v' L'/\Ho L'/\(it L 0::L').Perm L/\QFr bq oq v v' w w':=by
 obtain⟨g,cap,rfl,hg⟩:=h.form hn;obtain⟨n,hn2⟩:∃n,L.length=n+1:=⟨L.length-1,by omega⟩;rw[hn2] at h ⊢;have hlc:=h.len.2;have hd:=h.hd;obtain⟨x0,hx0⟩:∃z,it L 0=z:=⟨_,rfl⟩;have c0:=h.cell 0 hn;rw[hx0] at c0 ⊢;have HL:=uU h;have HF:=uU (a5m.start hO);have HPm:=uU (c4k L hn);have hn3:n<=1000000000:=by omega
 have hcl:b6j L=(swp L 0 n).take n:=by unfold b6j;rw[hn2];simp
 have HCL:=uU hcl;have HN:=uU hn2;have HX:=uU hx0;have i0:(0:Int)<=(n:Int):=by omega
 have i1:(n:Int)<=(cap:Int):=by omega
 clear h hO hn hm hcl hn2 hx0;go_enter Tryz.func228,Tryz.ntmps228;go_wp2_with fail;refine(a2p _ bq oq g 0 (n+1) cap x0 (by omega) hd c0).mono ?_;rintro e w1 ⟨rfl,rfl⟩;go_wp2_with fail;refine(a9m _ base bq oq g (n+1) cap 0 n 0 (n:Int) L rfl rfl HL (by omega) (by omega)).mono ?_;rintro e w2 ⟨rfl,ls2,q2⟩;have LS2:=uU ls2;have hd2:=ls2.hd;have hf2:=ls2.hf;have Q2:=uU q2;clear ls2 q2 hd c0;go_wp2_with fail;have LC:=LS2.cut;rw[<-uH HCL] at LC;refine(sink_ls _ base bq oq g n cap (b6j L) LC.1 HF hn3).mono ?_;rintro e w3 ⟨rfl,L3,ls3,ho3,p3,q3⟩
 have FIN:=uU (show eX w3 base bq oq (.slice (some ⟨g,0,none⟩) n cap) L3/\Ho L3/\(x0::L3).Perm L/\QFr bq oq (.slice (some ⟨g,0,none⟩) (n+1) cap) (.slice (some ⟨g,0,none⟩) n cap) w1 w3 from
  ⟨ls3,ho3,by have:=uH HPm;rw[uH HX] at this;exact(p3.cons x0).trans this,(Q2.trans LC.2).trans q3⟩)
 clear LC ls3 ho3 p3 q3;go_wp2_with fail;go_ret2;exact⟨rfl,_,L3,FIN⟩
theorem b2z(w:World)(base bq oq:Nat)(v:Value)(L:List Int)(h:eX w base bq oq v L)(hO:Ho L)(hm:L.length<=1000000000):
  Calls Tryz.prog 175 #[.pointer (some ⟨bq,oq,none⟩)] w λe w'=>∃r:Bool,Hid (e=.returned (.bool r))/\(r=true↔L.Nodup)/\∃v',QFr bq oq v v' w w':=by
 have HL:=uU h;have HO:=uU hO;clear h hO;go_enter Tryz.func175,Tryz.ntmps175;go_wp2_with fail
 go_loopg [3] (L.length+1) (λgh sd wr=>∃(d:Bool) (v1:Value) (M:List Int),sd=.bool d/\M.length+1<=gh/\M.length<=L.length/\eX wr base bq oq v1 M/\Ho M/\Hid ((d=true/\M.Nodup)↔L.Nodup)/\QFr bq oq v v1 w wr)
 case atStart=>exact⟨true,v,L,rfl,Nat.le_refl _,Nat.le_refl _,HL,HO,by show _↔_;simp,QFr.refl _ _ _ _⟩
 case round=>
  clear HL HO;obtain⟨d,v1,M,rfl,hgh,hML,hls,ho,hnd,hq⟩:=hrel;have HLS:=uU hls;have HO:=uU ho;have HQ:=uU hq;clear hls ho hq;by_cases h0:M.length=0
  ·have E:=uU (show d=true↔L.Nodup by
    have:=uH hnd;rw[List.length_eq_zero_iff.1 h0] at this
    simpa using this)
   clear hnd;go_wp2_with fail;refine(c4x _ base bq oq v1 M HLS h0).mono ?_;rintro e w1 ⟨rfl,rfl⟩;go_wp2_with fail;go_ret;exact⟨d,rfl,E,v1,HQ⟩
  ·go_wp2_with fail;refine(c4y _ base bq oq v1 M HLS (by omega) HO (by omega)).mono ?_;rintro e w1 ⟨rfl,v2,M2,ls2,ho2,p2,q2⟩;have hlen:M2.length+1=M.length:=by have:=p2.length_eq;simpa using this
   have LS2:=uU ls2;have HO2:=uU ho2;have P2:=uU p2;have Q2:=uU (HQ.trans q2);clear q2 ho2 p2;by_cases h2:M2.length=0
   ·obtain⟨ad,cap2,rfl⟩:=ls2.empty h2;have hd2:=ls2.hd
    have S:=uU (show(d=true/\M2.Nodup)↔L.Nodup by
     have e1:=uH hnd;rw[b2q (uH P2) (uH HO) rfl (uH HO2) (.inl (List.length_eq_zero_iff.1 h2))] at e1;exact e1)
    clear ls2 hnd;go_wp2_with fail;refine(a5n _ bq oq ad cap2 hd2).mono ?_;rintro e w2 ⟨rfl,rfl⟩;go_wp2_with fail
    go_roundg (M2.length+1)
    case rel=>exact⟨d,_,M2,rfl,Nat.le_refl _,by omega,LS2,HO2,S,Q2⟩
    case measure=>omega
   ·obtain⟨g2,cap2,rfl,hg2⟩:=ls2.form (by omega);have hd2:=ls2.hd;obtain⟨y0,hy0⟩:∃z,it M2 0=z:=⟨_,rfl⟩;obtain⟨x0,hx0⟩:∃z,it M 0=z:=⟨_,rfl⟩;have cy:=ls2.cell 0 (by omega);rw[hy0] at cy;rw[hx0];cases t:(y0 == x0)
    ·have S:=uU (show(d=true/\M2.Nodup)↔L.Nodup by
      have e1:=uH hnd;have t2:¬y0=x0:=by simpa using t
      rw[b2q (uH P2) (uH HO) rfl (uH HO2) (.inr (by rw[hy0,hx0];exact t2))] at e1;exact e1)
     clear ls2 hnd hy0 hx0;go_wp2_with fail;refine(a2p _ bq oq g2 0 M2.length cap2 y0 (by omega) hd2 cy).mono ?_;rintro e w2 ⟨rfl,rfl⟩;go_wp2_with fail
     go_roundg (M2.length+1)
     case rel=>exact⟨d,_,M2,rfl,Nat.le_refl _,by omega,LS2,HO2,S,Q2⟩
     case measure=>omega
    ·have S:=uU (show(false=true/\M2.Nodup)↔L.Nodup by
      have e1:=uH hnd;have t2:y0=x0:=by simpa using t
      have:=b7t P2 (by omega) (by rw[hy0,hx0];exact t2);constructor
      ·intro f;simp at f
      ·intro f;exact(this (e1.2 f).2).elim)
     clear ls2 hnd hy0 hx0;go_wp2_with fail;refine(a2p _ bq oq g2 0 M2.length cap2 y0 (by omega) hd2 cy).mono ?_;rintro e w2 ⟨rfl,rfl⟩;go_wp2_with fail
     go_roundg (M2.length+1)
     case rel=>exact⟨false,_,M2,rfl,Nat.le_refl _,by omega,LS2,HO2,S,Q2⟩
     case measure=>omega
structure FAt(w:World)(b:Nat)(x:Hp)(base:Nat)(vf:Value)(F:List Int):Prop where
 L:eX w base b 14 vf F
 O:Ho F
 P:F.Perm (a9g x x.cells.length)
theorem FAt.ext{w':World}{b:Nat}(h:FAt w b x base vf F)(e:Ext w w'):FAt w' b x base vf F:=⟨h.L.ext e,h.O,h.P⟩
theorem b0s(x:Hp)(k:Nat)(z:Int):z∈a9g x k↔∃i,i<k/\(x.c i).st=0/\(i:Int)=z:=by
 unfold a9g;rw[a1a];simp [yW,a6t]
theorem c7n(P:F.Perm (a9g x x.cells.length))(h:F.length=0)(k:Nat)(hk:k<x.cells.length):(x.c k).st≠0:=λe=>by
 have:(k:Int)∈F:=P.mem_iff.2 ((b0s _ _ _).2 ⟨k,hk,e,rfl⟩);rw[List.length_eq_zero_iff.1 h] at this;cases this
theorem c7o(P:F.Perm (a9g x x.cells.length))(O:Ho F)(h:0<F.length)(t:Nat)(ht:t<x.cells.length)(hs:(x.c t).st=1):
  (t:Int)<it F 0↔∀k:Nat,k<t->(x.c k).st≠0:=by
 constructor
 ·intro hl k hk e;have:=O.least (P.mem_iff.2 ((b0s _ _ _).2 ⟨k,by omega,e,rfl⟩));omega
 ·intro ha;obtain⟨i,hi,e,q⟩:=(b0s _ _ _).1 (P.mem_iff.1 (a3j F 0 h));by_cases h1:i<t
  ·exact(ha i h1 e).elim
  ·by_cases h2:i=t
   ·rw[h2] at e;omega
   ·omega
theorem b4u(x:Hp)(b i:Nat)(w:World){ar:Option Addr}{kr:Nat}{ac:Option Addr}{kc:Nat}{ag:Option Addr}{kg:Nat}{an:Option Addr}{kn:Nat}(h:VAt w b x ar kr ac kc ag kg an kn)(hF:FAt w b x base vf F)(hi:i<x.cells.length)(bn on:Nat)(ha:an=some ⟨bn,on,none⟩):
  Calls Tryz.prog 174 #[.pointer (some ⟨b,0,none⟩),.pointer (some ⟨bn,on+i*2,none⟩)] w λe w'=>∃r:Bool,Hid (e=.returned (.bool r))/\(r=true↔eV x i (x.c i))/\Ext w w':=by
 obtain⟨bn',on',bc,oc,e1,rfl,m0,m1⟩:=h.N i hi;rw[ha] at e1;cases e1;obtain⟨bc',oc',ap,kp,e2,C⟩:=h.H.cell i hi;cases e2;have c5:=h.H.c5;have n13:=h.n13;have lc:=h.H.lc;have p6:=C.p6;have HB:=uU (λn s (hs:tN (x.c i)=s)=>bare_is (x.c i) bn (on+i*2) bc (oc+i*8) ap kp s hs (w.drewN n) (((Ext.refl w).drewN n).keep m1) (C.ext ((Ext.refl w).drewN n)));clear C;have hi0:(0:Int)<=(i:Int):=by omega
 have HV:=uU h;have HFF:=uU hF;subst ha;clear h hF;cases t1:decide (x.phase<4)
 ·have t1':=of_decide_eq_false t1;cases t2:tN (x.c i)
  ·have N:=uU (show ¬eV x i (x.c i) from λm=>by have:=a7t.2 m.1;rw[this] at t2;simp at t2);go_enter Tryz.func174,Tryz.ntmps174;go_wp2_with fail;go_quiet ((go_at_call 172;exact Calls.quiet_of_same (HB _ _ t2)));go_wp2_with fail;go_ret;exact⟨false,rfl,⟨λf=>by simp at f,λr=>(N r).elim⟩,(Ext.refl w).drewN _⟩
  ·cases t3:uQ (x.c i).to 0 ((i:Int)-1)
   ·have N:=uU (show ¬eV x i (x.c i) from λm=>by have:=a0a t3;have:=m.2.2.1;have:=m.2.2.2.1;omega);go_enter Tryz.func174,Tryz.ntmps174;go_wp2_with fail;go_quiet (first | (go_at_call 172;exact Calls.quiet_of_same (HB _ _ t2)) | (go_at_call 78;refine Calls.quiet_of_same (uD _ _ _ false ?_ _);assumption));go_wp2_with fail;go_ret;exact⟨false,rfl,⟨λf=>by simp at f,λr=>(N r).elim⟩,(Ext.refl w).drewN _⟩
   ·obtain⟨t,htn⟩:∃t:Nat,(x.c i).to=(t:Int):=⟨(x.c i).to.toNat,by have:=uW t3;omega⟩;have ht3:=uW t3;have hti:t<i:=by omega
    have htl:t<x.cells.length:=by omega
    obtain⟨bn2,on2,bc2,oc2,e1,e2,k0,k1⟩:=HV.N t htl;cases e1;cases e2;obtain⟨bc3,oc3,ap3,kp3,e3,C3⟩:=HV.H.cell t htl;cases e3;have s0:=C3.p0;have ht0:(0:Int)<=(t:Int):=by omega
    have ht1:(t:Int)<(x.cells.length:Int):=by omega
    rw[htn] at p6 t3;have HTN:=uU htn;have BB:=uU (a7t.1 t2);have PH:=uU (show 4<=x.phase by omega);clear C3 k0 htn ht3;cases t4:((x.c t).st == 1)
    ·have N:=uU (show ¬eV x i (x.c i) from λm=>by have:=m.2.2.2.2.1;rw[uH HTN] at this;simp at this t4;omega);have t4b:((x.c t).st != 1)=true:=by simpa using t4
     go_enter Tryz.func174,Tryz.ntmps174;go_wp2_with fail;go_quiet (first | (go_at_call 172;exact Calls.quiet_of_same (HB _ _ t2)) | (go_at_call 78;refine Calls.quiet_of_same (uD _ _ _ true ?_ _);assumption));go_wp2_with fail;go_quiet (fail);go_wp2_with fail;go_ret;exact⟨false,rfl,⟨λf=>by simp at f,λr=>(N r).elim⟩,by first | exact((Ext.refl w).drewN _).drewN _ | exact(Ext.refl w).drewN _⟩
    ·have t4b:((x.c t).st != 1)=false:=by simpa using t4
     have T4:=uU (show(x.c t).st=1 by simpa using t4);have MK:=uU (show(x.phase=4->∀k:Nat,k<t->(x.c k).st≠0)->eV x i (x.c i) from λhg=>⟨BB,PH,by rw[uH HTN];omega,by rw[uH HTN];omega,by rw[uH HTN];simpa using uH T4,λp k hk=>hg p k (by rw[uH HTN] at hk;omega)⟩);have MG:=uU (show eV x i (x.c i)->x.phase=4->∀k:Nat,k<t->(x.c k).st≠0 from λm p k hk=>m.2.2.2.2.2 p k (by rw[uH HTN];omega));by_cases f0:F.length=0
     ·obtain⟨ad,cap,rfl⟩:=HFF.L.empty f0;have hd:=HFF.L.hd;have Y:=uU (MK λ_ k hk=>c7n HFF.P f0 k (by omega));cases t5:(x.phase == 4)
      ·have t5b:(x.phase != 4)=true:=by simpa using t5
       go_enter Tryz.func174,Tryz.ntmps174;go_wp2_with fail;go_quiet (first | (go_at_call 172;exact Calls.quiet_of_same (HB _ _ t2)) | (go_at_call 78;refine Calls.quiet_of_same (uD _ _ _ true ?_ _);assumption));go_wp2_with fail;go_quiet (fail);go_wp2_with fail;refine(a5n (w.drewN _) b 14 ad cap (((Ext.refl w).drewN _).keep hd)).mono ?_;rintro e w1 ⟨rfl,rfl⟩;go_wp2_with fail;go_ret;exact⟨true,rfl,⟨λ_=>uH Y,λ_=>rfl⟩,by first | exact((Ext.refl w).drewN _).drewN _ | exact(Ext.refl w).drewN _⟩
      ·have t5b:(x.phase != 4)=false:=by simpa using t5
       go_enter Tryz.func174,Tryz.ntmps174;go_wp2_with fail;go_quiet (first | (go_at_call 172;exact Calls.quiet_of_same (HB _ _ t2)) | (go_at_call 78;refine Calls.quiet_of_same (uD _ _ _ true ?_ _);assumption));go_wp2_with fail;go_quiet (fail);go_wp2_with fail;refine(a5n (w.drewN _) b 14 ad cap (((Ext.refl w).drewN _).keep hd)).mono ?_;rintro e w1 ⟨rfl,rfl⟩;go_wp2_with fail;go_ret;exact⟨true,rfl,⟨λ_=>uH Y,λ_=>rfl⟩,by first | exact((Ext.refl w).drewN _).drewN _ | exact(Ext.refl w).drewN _⟩
     ·obtain⟨g,cap,rfl,hgb⟩:=HFF.L.form (by omega);have hd:=HFF.L.hd;have GS:=uU (c7o HFF.P HFF.O (by omega) t htl T4);have cy:=HFF.L.cell 0 (by omega);obtain⟨y0,hy0⟩:∃z,it F 0=z:=⟨_,rfl⟩;rw[hy0] at cy;cases t5:(x.phase == 4)
      ·have t5b:(x.phase != 4)=true:=by simpa using t5
       have Y:=uU (MK λp=>by rw[p] at t5;simp at t5);clear hy0;go_enter Tryz.func174,Tryz.ntmps174;go_wp2_with fail;go_quiet (first | (go_at_call 172;exact Calls.quiet_of_same (HB _ _ t2)) | (go_at_call 78;refine Calls.quiet_of_same (uD _ _ _ true ?_ _);assumption));go_wp2_with fail;go_quiet (fail);go_wp2_with fail;refine(a2p (w.drewN _) b 14 g 0 F.length cap y0 (by omega) (((Ext.refl w).drewN _).keep hd) (((Ext.refl w).drewN _).keep cy)).mono ?_;rintro e w1 ⟨rfl,rfl⟩;go_wp2_with fail;go_ret;exact⟨true,rfl,⟨λ_=>uH Y,λ_=>rfl⟩,by first | exact((Ext.refl w).drewN _).drewN _ | exact(Ext.refl w).drewN _⟩
      ·have t5b:(x.phase != 4)=false:=by simpa using t5
       have P4:=uU (show x.phase=4 by simpa using t5);cases t6:decide ((t:Int)<y0)
       ·have N:=uU (show ¬eV x i (x.c i) from λm=>of_decide_eq_false t6 (by rw[<-hy0];exact GS.2 (MG m P4)));clear hy0;go_enter Tryz.func174,Tryz.ntmps174;go_wp2_with fail;go_quiet (first | (go_at_call 172;exact Calls.quiet_of_same (HB _ _ t2)) | (go_at_call 78;refine Calls.quiet_of_same (uD _ _ _ true ?_ _);assumption));go_wp2_with fail;go_quiet (fail);go_wp2_with fail;refine(a2p (w.drewN _) b 14 g 0 F.length cap y0 (by omega) (((Ext.refl w).drewN _).keep hd) (((Ext.refl w).drewN _).keep cy)).mono ?_;rintro e w1 ⟨rfl,rfl⟩;go_wp2_with fail;go_ret;exact⟨false,rfl,⟨λf=>by simp at f,λr=>(N r).elim⟩,by first | exact((Ext.refl w).drewN _).drewN _ | exact(Ext.refl w).drewN _⟩
       ·have Y:=uU (MK λ_=>GS.1 (by rw[hy0];exact of_decide_eq_true t6));have t6b:=of_decide_eq_true t6;clear hy0 t6;go_enter Tryz.func174,Tryz.ntmps174;go_wp2_with fail;go_quiet (first | (go_at_call 172;exact Calls.quiet_of_same (HB _ _ t2)) | (go_at_call 78;refine Calls.quiet_of_same (uD _ _ _ true ?_ _);assumption));go_wp2_with fail;go_quiet (fail);go_wp2_with fail;refine(a2p (w.drewN _) b 14 g 0 F.length cap y0 (by omega) (((Ext.refl w).drewN _).keep hd) (((Ext.refl w).drewN _).keep cy)).mono ?_;rintro e w1 ⟨rfl,rfl⟩;go_wp2_with fail;go_ret;exact⟨true,rfl,⟨λ_=>uH Y,λ_=>rfl⟩,by first | exact((Ext.refl w).drewN _).drewN _ | exact(Ext.refl w).drewN _⟩
 ·have N:=uU (show ¬eV x i (x.c i) from λm=>by have:=m.2.1;have:=of_decide_eq_true t1;omega);have t1b:=of_decide_eq_true t1;clear t1;go_enter Tryz.func174,Tryz.ntmps174;go_wp2_with fail;go_quiet (fail);go_wp2_with fail;go_ret;exact⟨false,rfl,⟨λf=>by simp at f,λr=>(N r).elim⟩,(Ext.refl w).drewN _⟩
end Go.Proofs.YtddkhnclmeikfaaGreat
