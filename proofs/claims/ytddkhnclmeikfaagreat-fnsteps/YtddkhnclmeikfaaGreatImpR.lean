import Derived.Test.YtddkhnclmeikfaaGreatL2d
import Derived.Test.YtddkhnclmeikfaaGreatLsB
set_option maxRecDepth 100000
set_option maxHeartbeats 4000000
namespace Go.Proofs.YtddkhnclmeikfaaGreat
open Go.RowKit
attribute [local go_sem ↓] Go.wp_at_zero Go.wp_at_succ
variable{x:Hp}{F:List Int}{ar ac ag an:Option Addr}{kr kc kg base kn b:Nat}{w w':World}{vf:Value}
theorem a9a(w:World)(base bq oq g n cap i j:Nat)(I J:Int)(L:List Int)(hI:I=(i:Int))(hJ:J=(j:Int))(h:eX w base bq oq (.slice (some ⟨g,0,none⟩) n cap) L)(hi:i<n)(hj:j<n):
  Calls Tryz.prog 171 #[.pointer (some ⟨bq,oq,none⟩),.int .i64 I,.int .i64 J] w λe w'=>e=.returned (.tuple #[])/\eX w' base bq oq (.slice (some ⟨g,0,none⟩) n cap) (swp L i j)/\QFr bq oq (.slice (some ⟨g,0,none⟩) n cap) (.slice (some ⟨g,0,none⟩) n cap) w w':=by
 subst hI;subst hJ;exact c0t w base bq oq g n cap i j L h hi hj
theorem sink_ls(w:World)(base bq oq g n cap:Nat)(L:List Int)(h:eX w base bq oq (.slice (some ⟨g,0,none⟩) n cap) L)(hF:a4x L 0)(hn:n<=1000000000):
  Calls Tryz.prog 249 #[.pointer (some ⟨bq,oq,none⟩)] w λe w'=>e=.returned (.tuple #[])/\∃L',eX w' base bq oq (.slice (some ⟨g,0,none⟩) n cap) L'/\Ho L'/\L'.Perm L/\QFr bq oq (.slice (some ⟨g,0,none⟩) n cap) (.slice (some ⟨g,0,none⟩) n cap) w w':=by
 have hl:=h.len.1;have hlc:=h.len.2;have HL:=uU h;have HFF:=uU hF;clear h hF;go_enter Tryz.func249,Tryz.ntmps249;go_wp2_with fail;go_loopw [2] (λsi wr=>∃(a:Nat) (M:List Int),a<=n/\si=.int .i64 a/\M.length=n/\eX wr base bq oq (.slice (some ⟨g,0,none⟩) n cap) M/\a4x M a/\M.Perm L/\QFr bq oq (.slice (some ⟨g,0,none⟩) n cap) (.slice (some ⟨g,0,none⟩) n cap) w wr) (λsi _=>n-(intOf si).toNat)
 case atStart=>exact⟨0,L,Nat.zero_le _,rfl,hl.symm,HL,HFF,List.Perm.refl _,QFr.refl _ _ _ _⟩
 case round=>
  clear HFF HL hl;obtain⟨a,M,ha,rfl,hM,hls,hr,hp,hq⟩:=hrel;have HLS:=uU hls;have HR:=uU hr;have HP:=uU hp;have HQ:=uU hq;have hd:=hls.hd;have i0:(0:Int)<=(a:Int):=by omega
  have i1:(a:Int)<=1000000000:=by omega
  by_cases hb:n<=2*a+1
  ·have hb2:(n:Int)<=2*(a:Int)+1:=by omega
   have Y:=uU (a4x.bottom HR (by omega));clear hls hr hp hq hb;go_wp2_with fail
   try simp only [Exit.inBlock,Exit.then]
   refine bodyPost_ret (results_none rfl _ _ _) rfl ?_;exact⟨rfl,M,HLS,Y,HP,HQ⟩
  ·have hb2:¬(n:Int)<=2*(a:Int)+1:=by omega
   have hb3:2*(a:Int)+1<(n:Int):=by omega
   have j0:(0:Int)<=2*(a:Int)+1:=by omega
   have j1:(2*(a:Int)+1).toNat=2*a+1:=by omega
   have j2:(a:Int)<(n:Int):=by omega
   have hwr:IntKind.i64.wrap (2*(a:Int)+1+1)=2*(a:Int)+2:=by rw[IntKind.wrap_i64];omega
   obtain⟨xa,hxa⟩:∃z,it M a=z:=⟨_,rfl⟩;have ca:=hls.cell a (by omega);rw[hxa] at ca;obtain⟨xl,hxl⟩:∃z,it M (2*a+1)=z:=⟨_,rfl⟩;have cl:=hls.cell (2*a+1) (by omega);rw[hxl] at cl;by_cases hr2:2*a+2<n
   ·obtain⟨xr,hxr⟩:∃z,it M (2*a+2)=z:=⟨_,rfl⟩;have cr:=hls.cell (2*a+2) (by omega);rw[hxr] at cr;have k0:2*(a:Int)+2<(n:Int):=by omega
    have k1:(0:Int)<=2*(a:Int)+2:=by omega
    have k2:(2*(a:Int)+2).toNat=2*a+2:=by omega
    by_cases ht:xr<xl
    ·have LE:=uU (a3b.right (by omega) (by rw[hxr,hxl];exact ht):a3b M a (2*a+2));clear hls hr hp hq hb;by_cases hc:xa<=xr
     ·have Y:=uU (a4x.done HR LE (by rw[hxa,hxr];exact hc));go_wp2_with fail;go_quiet (fail);go_wp2_with fail;go_quiet (fail);go_wp2_with fail
      try simp only [Exit.inBlock,Exit.then]
      refine bodyPost_ret (results_none rfl _ _ _) rfl ?_;exact⟨rfl,M,HLS.ext (by first | exact((Ext.refl _).drewN _).drewN _ | exact(Ext.refl _).drewN _),Y,HP,by first | exact(HQ.drewN _).drewN _ | exact HQ.drewN _⟩
     ·have hc2:decide (xa<=xr)=false:=decide_eq_false hc;have hc3:xr<xa:=by omega
      have R2:=uU (a4x.down HR LE (by rw[hxa,hxr];exact hc3));have sl:2*a+2<M.length:=LE.2.1;have ez:((2*a+2:Nat):Int)=2*(a:Int)+2:=by omega
      clear hc hc3;go_wp2_with fail;go_quiet (fail);go_wp2_with fail;go_quiet (fail);go_wp2_with fail;refine(a9a _ base bq oq g n cap a (2*a+2) (a:Int) (2*(a:Int)+2) M rfl ez.symm (HLS.ext (by first | exact((Ext.refl _).drewN _).drewN _ | exact(Ext.refl _).drewN _)) (by omega) (by omega)).mono ?_;rintro e w2 ⟨rfl,ls2,q2⟩;have LS2:=uU ls2;have QF2:=uU (QFr.trans (by first | exact(HQ.drewN _).drewN _ | exact HQ.drewN _) q2);clear ls2 q2;go_wp2_with fail;go_roundw
      case rel=>exact⟨2*a+2,swp M a (2*a+2),by omega,by go_num,by rw[a0t];omega,LS2,R2,(a3o M a (2*a+2) (by omega) sl).trans HP,QF2⟩
      case measure=>simp [intOf];omega
    ·have LE:=uU (a3b.left (by omega) (λ_=>by rw[hxr,hxl];omega):a3b M a (2*a+1));have ht2:decide (xr<xl)=false:=decide_eq_false ht;clear hls hr hp hq hb ht;by_cases hc:xa<=xl
     ·have Y:=uU (a4x.done HR LE (by rw[hxa,hxl];exact hc));go_wp2_with fail;go_quiet (fail);go_wp2_with fail;go_quiet (fail);go_wp2_with fail
      try simp only [Exit.inBlock,Exit.then]
      refine bodyPost_ret (results_none rfl _ _ _) rfl ?_;exact⟨rfl,M,HLS.ext (by first | exact((Ext.refl _).drewN _).drewN _ | exact(Ext.refl _).drewN _),Y,HP,by first | exact(HQ.drewN _).drewN _ | exact HQ.drewN _⟩
     ·have hc2:decide (xa<=xl)=false:=decide_eq_false hc;have hc3:xl<xa:=by omega
      have R2:=uU (a4x.down HR LE (by rw[hxa,hxl];exact hc3));have sl:2*a+1<M.length:=LE.2.1;have ez:((2*a+1:Nat):Int)=2*(a:Int)+1:=by omega
      clear hc hc3;go_wp2_with fail;go_quiet (fail);go_wp2_with fail;go_quiet (fail);go_wp2_with fail;refine(a9a _ base bq oq g n cap a (2*a+1) (a:Int) (2*(a:Int)+1) M rfl ez.symm (HLS.ext (by first | exact((Ext.refl _).drewN _).drewN _ | exact(Ext.refl _).drewN _)) (by omega) (by omega)).mono ?_;rintro e w2 ⟨rfl,ls2,q2⟩;have LS2:=uU ls2;have QF2:=uU (QFr.trans (by first | exact(HQ.drewN _).drewN _ | exact HQ.drewN _) q2);clear ls2 q2;go_wp2_with fail;go_roundw
      case rel=>exact⟨2*a+1,swp M a (2*a+1),by omega,by go_num,by rw[a0t];omega,LS2,R2,(a3o M a (2*a+1) (by omega) sl).trans HP,QF2⟩
      case measure=>simp [intOf];omega
   ·have LE:=uU (a3b.left (by omega) (λq=>by omega):a3b M a (2*a+1));have hr3:decide (2*(a:Int)+2<(n:Int))=false:=decide_eq_false (by omega);clear hls hr hp hq hb hr2;by_cases hc:xa<=xl
    ·have Y:=uU (a4x.done HR LE (by rw[hxa,hxl];exact hc));go_wp2_with fail;go_quiet (fail);go_wp2_with fail;go_quiet (fail);go_wp2_with fail
     try simp only [Exit.inBlock,Exit.then]
     refine bodyPost_ret (results_none rfl _ _ _) rfl ?_;exact⟨rfl,M,HLS.ext (by first | exact((Ext.refl _).drewN _).drewN _ | exact(Ext.refl _).drewN _),Y,HP,by first | exact(HQ.drewN _).drewN _ | exact HQ.drewN _⟩
    ·have hc2:decide (xa<=xl)=false:=decide_eq_false hc;have hc3:xl<xa:=by omega
     have R2:=uU (a4x.down HR LE (by rw[hxa,hxl];exact hc3));have sl:2*a+1<M.length:=LE.2.1;have ez:((2*a+1:Nat):Int)=2*(a:Int)+1:=by omega
     clear hc hc3;go_wp2_with fail;go_quiet (fail);go_wp2_with fail;go_quiet (fail);go_wp2_with fail;refine(a9a _ base bq oq g n cap a (2*a+1) (a:Int) (2*(a:Int)+1) M rfl ez.symm (HLS.ext (by first | exact((Ext.refl _).drewN _).drewN _ | exact(Ext.refl _).drewN _)) (by omega) (by omega)).mono ?_;rintro e w2 ⟨rfl,ls2,q2⟩;have LS2:=uU ls2;have QF2:=uU (QFr.trans (by first | exact(HQ.drewN _).drewN _ | exact HQ.drewN _) q2);clear ls2 q2;go_wp2_with fail;go_roundw
     case rel=>exact⟨2*a+1,swp M a (2*a+1),by omega,by go_num,by rw[a0t];omega,LS2,R2,(a3o M a (2*a+1) (by omega) sl).trans HP,QF2⟩
     case measure=>simp [intOf];omega
theorem c2s(w:World)(base bq oq:Nat)(v:Value)(L:List Int)(h:eX w base bq oq v L)(hn:L.length=0):
  Calls Tryz.prog 228 #[.pointer (some ⟨bq,oq,none⟩)] w λe w'=>e=.returned (.tuple #[.int .i64 0,.bool false])/\w'=w:=by
 obtain⟨ad,cap,rfl⟩:=h.empty hn;have hd:=h.hd;clear h;go_enter Tryz.func228,Tryz.ntmps228;go_wp2_with fail;refine(a3p _ bq oq ad cap hd).mono ?_;rintro e w1 ⟨rfl,rfl⟩;go_wp2_with fail;go_ret2;exact⟨rfl,rfl⟩
theorem eX.cut{bq oq g n cap:Nat}{L:List Int}(h:eX w base bq oq (.slice (some ⟨g,0,none⟩) (n+1) cap) L):
  eX (w.setCell ⟨bq,oq,none⟩ (.slice (some ⟨g,0,none⟩) n cap)) base bq oq (.slice (some ⟨g,0,none⟩) n cap) (L.take n)/\
  QFr bq oq (.slice (some ⟨g,0,none⟩) (n+1) cap) (.slice (some ⟨g,0,none⟩) n cap) w (w.setCell ⟨bq,oq,none⟩ (.slice (some ⟨g,0,none⟩) n cap)):=by
 have hne:g≠bq:=λe=>h.apart (by rw[<-e];rfl)
 obtain⟨hl,hc⟩:=h.len;have hsp:L=L.take n++L.drop n:=(List.take_append_drop n L).symm;have hlen:(L.take n).length=n:=by simp;omega
 have how:w.ownsRow base 3 1 (.slice (some ⟨g,0,none⟩) n cap) n ((L.take n).map iv):=by
  refine ownsRow_pop (last:=(L.drop n).map iv) (by simp;omega) ?_;have:=h.own;rw[<-hl] at this;rw[<-List.map_append,List.take_append_drop];exact this
 refine⟨⟨World.cell?_setCell_same _ _ _ h.hd,by rw[World.frozen?_setCell];exact h.hf,?_,λe=>hne (by simpa [Value.ownBlock] using e)⟩,⟨rfl,rfl,rfl,by simp [World.setCell],λk _ h1 _=>Below.heap_setCell _ _ _ _ (show k≠bq from h1),λo ho=>uC _ (.inr (λe=>ho e.symm)),λo=>by rw[World.frozen?_setCell],.inl rfl⟩⟩;rw[hlen];refine uQ how (λk hk=>Below.heap_setCell _ _ _ _ ?_);simp [Value.ownBlock] at hk;show k≠bq;omega
theorem a9x(w:World)(base bq oq:Nat)(v:Value)(L:List Int)(h:eX w base bq oq v L)(hn:0<L.length)(hO:Ho L)(hm:L.length<=1000000000):
  Calls Tryz.prog 228 #[.pointer (some ⟨bq,oq,none⟩)] w λe w'=>e=.returned (.tuple #[.int .i64 (it L 0),.bool true])/\∃v' L',eX w' base bq oq v' L'/\Ho L'/\(it L 0::L').Perm L/\QFr bq oq v v' w w':=by
 obtain⟨g,cap,rfl,hg⟩:=h.form hn;obtain⟨n,hn2⟩:∃n,L.length=n+1:=⟨L.length-1,by omega⟩;rw[hn2] at h ⊢;have hlc:=h.len.2;have hd:=h.hd;obtain⟨x0,hx0⟩:∃z,it L 0=z:=⟨_,rfl⟩;have c0:=h.cell 0 hn;rw[hx0] at c0 ⊢;have HL:=uU h;have HF:=uU (a4x.start hO);have HPm:=uU (c1t L hn);have hn3:n<=1000000000:=by omega
 have hcl:b4t L=(swp L 0 n).take n:=by unfold b4t;rw[hn2];simp
 have HCL:=uU hcl;have HN:=uU hn2;have HX:=uU hx0;have i0:(0:Int)<=(n:Int):=by omega
 have i1:(n:Int)<=(cap:Int):=by omega
 clear h hO hn hm hcl hn2 hx0;go_enter Tryz.func228,Tryz.ntmps228;go_wp2_with fail;refine(a1h _ bq oq g 0 (n+1) cap x0 (by omega) hd c0).mono ?_;rintro e w1 ⟨rfl,rfl⟩;go_wp2_with fail;refine(a9a _ base bq oq g (n+1) cap 0 n 0 (n:Int) L rfl rfl HL (by omega) (by omega)).mono ?_;rintro e w2 ⟨rfl,ls2,q2⟩;have LS2:=uU ls2;have hd2:=ls2.hd;have hf2:=ls2.hf;have Q2:=uU q2;clear ls2 q2 hd c0;go_wp2_with fail;have LC:=LS2.cut;rw[<-uH HCL] at LC;refine(sink_ls _ base bq oq g n cap (b4t L) LC.1 HF hn3).mono ?_;rintro e w3 ⟨rfl,L3,ls3,ho3,p3,q3⟩
 have FIN:=uU (show eX w3 base bq oq (.slice (some ⟨g,0,none⟩) n cap) L3/\Ho L3/\(x0::L3).Perm L/\QFr bq oq (.slice (some ⟨g,0,none⟩) (n+1) cap) (.slice (some ⟨g,0,none⟩) n cap) w1 w3 from
  ⟨ls3,ho3,by have:=uH HPm;rw[uH HX] at this;exact(p3.cons x0).trans this,(Q2.trans LC.2).trans q3⟩)
 clear LC ls3 ho3 p3 q3;go_wp2_with fail;go_ret2;exact⟨rfl,_,L3,FIN⟩
theorem b2k(w:World)(base bq oq:Nat)(v:Value)(L:List Int)(h:eX w base bq oq v L)(hO:Ho L)(hm:L.length<=1000000000):
  Calls Tryz.prog 175 #[.pointer (some ⟨bq,oq,none⟩)] w λe w'=>∃r:Bool,Hid (e=.returned (.bool r))/\(r=true↔L.Nodup)/\∃v',QFr bq oq v v' w w':=by
 have HL:=uU h;have HO:=uU hO;clear h hO;go_enter Tryz.func175,Tryz.ntmps175;go_wp2_with fail
 go_loopg [3] (L.length+1) (λgh sd wr=>∃(d:Bool) (v1:Value) (M:List Int),sd=.bool d/\M.length+1<=gh/\M.length<=L.length/\eX wr base bq oq v1 M/\Ho M/\Hid ((d=true/\M.Nodup)↔L.Nodup)/\QFr bq oq v v1 w wr)
 case atStart=>exact⟨true,v,L,rfl,Nat.le_refl _,Nat.le_refl _,HL,HO,by show _↔_;simp,QFr.refl _ _ _ _⟩
 case round=>
  clear HL HO;obtain⟨d,v1,M,rfl,hgh,hML,hls,ho,hnd,hq⟩:=hrel;have HLS:=uU hls;have HO:=uU ho;have HQ:=uU hq;clear hls ho hq;by_cases h0:M.length=0
  ·have E:=uU (show d=true↔L.Nodup by
    have:=uH hnd;rw[List.length_eq_zero_iff.1 h0] at this
    simpa using this)
   clear hnd;go_wp2_with fail;refine(c2s _ base bq oq v1 M HLS h0).mono ?_;rintro e w1 ⟨rfl,rfl⟩;go_wp2_with fail;go_ret;exact⟨d,rfl,E,v1,HQ⟩
  ·go_wp2_with fail;refine(a9x _ base bq oq v1 M HLS (by omega) HO (by omega)).mono ?_;rintro e w1 ⟨rfl,v2,M2,ls2,ho2,p2,q2⟩;have hlen:M2.length+1=M.length:=by have:=p2.length_eq;simpa using this
   have LS2:=uU ls2;have HO2:=uU ho2;have P2:=uU p2;have Q2:=uU (HQ.trans q2);clear q2 ho2 p2;by_cases h2:M2.length=0
   ·obtain⟨ad,cap2,rfl⟩:=ls2.empty h2;have hd2:=ls2.hd
    have S:=uU (show(d=true/\M2.Nodup)↔L.Nodup by
     have e1:=uH hnd;rw[b1j (uH P2) (uH HO) rfl (uH HO2) (.inl (List.length_eq_zero_iff.1 h2))] at e1;exact e1)
    clear ls2 hnd;go_wp2_with fail;refine(a3p _ bq oq ad cap2 hd2).mono ?_;rintro e w2 ⟨rfl,rfl⟩;go_wp2_with fail
    go_roundg (M2.length+1)
    case rel=>exact⟨d,_,M2,rfl,Nat.le_refl _,by omega,LS2,HO2,S,Q2⟩
    case measure=>omega
   ·obtain⟨g2,cap2,rfl,hg2⟩:=ls2.form (by omega);have hd2:=ls2.hd;obtain⟨y0,hy0⟩:∃z,it M2 0=z:=⟨_,rfl⟩;obtain⟨x0,hx0⟩:∃z,it M 0=z:=⟨_,rfl⟩;have cy:=ls2.cell 0 (by omega);rw[hy0] at cy;rw[hx0];cases t:(y0 == x0)
    ·have S:=uU (show(d=true/\M2.Nodup)↔L.Nodup by
      have e1:=uH hnd;have t2:¬y0=x0:=by simpa using t
      rw[b1j (uH P2) (uH HO) rfl (uH HO2) (.inr (by rw[hy0,hx0];exact t2))] at e1;exact e1)
     clear ls2 hnd hy0 hx0;go_wp2_with fail;refine(a1h _ bq oq g2 0 M2.length cap2 y0 (by omega) hd2 cy).mono ?_;rintro e w2 ⟨rfl,rfl⟩;go_wp2_with fail
     go_roundg (M2.length+1)
     case rel=>exact⟨d,_,M2,rfl,Nat.le_refl _,by omega,LS2,HO2,S,Q2⟩
     case measure=>omega
    ·have S:=uU (show(false=true/\M2.Nodup)↔L.Nodup by
      have e1:=uH hnd;have t2:y0=x0:=by simpa using t
      have:=b6e P2 (by omega) (by rw[hy0,hx0];exact t2);constructor
      ·intro f;simp at f
      ·intro f;exact(this (e1.2 f).2).elim)
     clear ls2 hnd hy0 hx0;go_wp2_with fail;refine(a1h _ bq oq g2 0 M2.length cap2 y0 (by omega) hd2 cy).mono ?_;rintro e w2 ⟨rfl,rfl⟩;go_wp2_with fail
     go_roundg (M2.length+1)
     case rel=>exact⟨false,_,M2,rfl,Nat.le_refl _,by omega,LS2,HO2,S,Q2⟩
     case measure=>omega
structure FAt(w:World)(b:Nat)(x:Hp)(base:Nat)(vf:Value)(F:List Int):Prop where
 L:eX w base b 14 vf F
 O:Ho F
 P:F.Perm (a7n x x.cells.length)
theorem FAt.ext(h:FAt w b x base vf F)(e:Ext w w'):FAt w' b x base vf F:=⟨h.L.ext e,h.O,h.P⟩
theorem a4t(x:Hp)(k:Nat)(z:Int):z∈a7n x k↔∃i,i<k/\(x.c i).st=0/\(i:Int)=z:=by
 unfold a7n;rw[a1a];simp [yY,a6a]
theorem c5p(P:F.Perm (a7n x x.cells.length))(h:F.length=0)(k:Nat)(hk:k<x.cells.length):(x.c k).st≠0:=λe=>by
 have:(k:Int)∈F:=P.mem_iff.2 ((a4t _ _ _).2 ⟨k,hk,e,rfl⟩);rw[List.length_eq_zero_iff.1 h] at this;cases this
theorem c5q(P:F.Perm (a7n x x.cells.length))(O:Ho F)(h:0<F.length)(t:Nat)(ht:t<x.cells.length)(hs:(x.c t).st=1):
  (t:Int)<it F 0↔∀k:Nat,k<t->(x.c k).st≠0:=by
 constructor
 ·intro hl k hk e;have:=O.least (P.mem_iff.2 ((a4t _ _ _).2 ⟨k,by omega,e,rfl⟩));omega
 ·intro ha;obtain⟨i,hi,e,q⟩:=(a4t _ _ _).1 (P.mem_iff.1 (a2m F 0 h));by_cases h1:i<t
  ·exact(ha i h1 e).elim
  ·by_cases h2:i=t
   ·rw[h2] at e;omega
   ·omega
theorem b3j(x:Hp)(b i:Nat)(w:World)(h:VAt w b x ar kr ac kc ag kg an kn)(hF:FAt w b x base vf F)(hi:i<x.cells.length)(bn on:Nat)(ha:an=some ⟨bn,on,none⟩):
  Calls Tryz.prog 174 #[.pointer (some ⟨b,0,none⟩),.pointer (some ⟨bn,on+i*2,none⟩)] w λe w'=>∃r:Bool,Hid (e=.returned (.bool r))/\(r=true↔eD x i (x.c i))/\Ext w w':=by
 obtain⟨bn',on',bc,oc,e1,rfl,m0,m1⟩:=h.N i hi;rw[ha] at e1;cases e1;obtain⟨bc',oc',ap,kp,e2,C⟩:=h.H.cell i hi;cases e2;have c5:=h.H.c5;have n13:=h.n13;have lc:=h.H.lc;have p6:=C.p6;have HB:=uU (λn s (hs:tQ (x.c i)=s)=>bare_is (x.c i) bn (on+i*2) bc (oc+i*8) ap kp s hs (w.drewN n) (((Ext.refl w).drewN n).keep m1) (C.ext ((Ext.refl w).drewN n)));clear C;have hi0:(0:Int)<=(i:Int):=by omega
 have HV:=uU h;have HFF:=uU hF;subst ha;clear h hF;cases t1:decide (x.phase<4)
 ·have t1':=of_decide_eq_false t1;cases t2:tQ (x.c i)
  ·have N:=uU (show ¬eD x i (x.c i) from λm=>by have:=a7a.2 m.1;rw[this] at t2;simp at t2);go_enter Tryz.func174,Tryz.ntmps174;go_wp2_with fail;go_quiet ((go_at_call 172;exact Calls.quiet_of_same (HB _ _ t2)));go_wp2_with fail;go_ret;exact⟨false,rfl,⟨λf=>by simp at f,λr=>(N r).elim⟩,(Ext.refl w).drewN _⟩
  ·cases t3:uZ (x.c i).to 0 ((i:Int)-1)
   ·have N:=uU (show ¬eD x i (x.c i) from λm=>by have:=a0a t3;have:=m.2.2.1;have:=m.2.2.2.1;omega);go_enter Tryz.func174,Tryz.ntmps174;go_wp2_with fail;go_quiet (first | (go_at_call 172;exact Calls.quiet_of_same (HB _ _ t2)) | (go_at_call 78;refine Calls.quiet_of_same (uD _ _ _ false ?_ _);assumption));go_wp2_with fail;go_ret;exact⟨false,rfl,⟨λf=>by simp at f,λr=>(N r).elim⟩,(Ext.refl w).drewN _⟩
   ·obtain⟨t,htn⟩:∃t:Nat,(x.c i).to=(t:Int):=⟨(x.c i).to.toNat,by have:=uJ t3;omega⟩;have ht3:=uJ t3;have hti:t<i:=by omega
    have htl:t<x.cells.length:=by omega
    obtain⟨bn2,on2,bc2,oc2,e1,e2,k0,k1⟩:=HV.N t htl;cases e1;cases e2;obtain⟨bc3,oc3,ap3,kp3,e3,C3⟩:=HV.H.cell t htl;cases e3;have s0:=C3.p0;have ht0:(0:Int)<=(t:Int):=by omega
    have ht1:(t:Int)<(x.cells.length:Int):=by omega
    rw[htn] at p6 t3;have HTN:=uU htn;have BB:=uU (a7a.1 t2);have PH:=uU (show 4<=x.phase by omega);clear C3 k0 htn ht3;cases t4:((x.c t).st == 1)
    ·have N:=uU (show ¬eD x i (x.c i) from λm=>by have:=m.2.2.2.2.1;rw[uH HTN] at this;simp at this t4;omega);have t4b:((x.c t).st != 1)=true:=by simpa using t4
     go_enter Tryz.func174,Tryz.ntmps174;go_wp2_with fail;go_quiet (first | (go_at_call 172;exact Calls.quiet_of_same (HB _ _ t2)) | (go_at_call 78;refine Calls.quiet_of_same (uD _ _ _ true ?_ _);assumption));go_wp2_with fail;go_quiet (fail);go_wp2_with fail;go_ret;exact⟨false,rfl,⟨λf=>by simp at f,λr=>(N r).elim⟩,by first | exact((Ext.refl w).drewN _).drewN _ | exact(Ext.refl w).drewN _⟩
    ·have t4b:((x.c t).st != 1)=false:=by simpa using t4
     have T4:=uU (show(x.c t).st=1 by simpa using t4);have MK:=uU (show(x.phase=4->∀k:Nat,k<t->(x.c k).st≠0)->eD x i (x.c i) from λhg=>⟨BB,PH,by rw[uH HTN];omega,by rw[uH HTN];omega,by rw[uH HTN];simpa using uH T4,λp k hk=>hg p k (by rw[uH HTN] at hk;omega)⟩);have MG:=uU (show eD x i (x.c i)->x.phase=4->∀k:Nat,k<t->(x.c k).st≠0 from λm p k hk=>m.2.2.2.2.2 p k (by rw[uH HTN];omega));by_cases f0:F.length=0
     ·obtain⟨ad,cap,rfl⟩:=HFF.L.empty f0;have hd:=HFF.L.hd;have Y:=uU (MK λ_ k hk=>c5p HFF.P f0 k (by omega));cases t5:(x.phase == 4)
      ·have t5b:(x.phase != 4)=true:=by simpa using t5
       go_enter Tryz.func174,Tryz.ntmps174;go_wp2_with fail;go_quiet (first | (go_at_call 172;exact Calls.quiet_of_same (HB _ _ t2)) | (go_at_call 78;refine Calls.quiet_of_same (uD _ _ _ true ?_ _);assumption));go_wp2_with fail;go_quiet (fail);go_wp2_with fail;refine(a3p (w.drewN _) b 14 ad cap (((Ext.refl w).drewN _).keep hd)).mono ?_;rintro e w1 ⟨rfl,rfl⟩;go_wp2_with fail;go_ret;exact⟨true,rfl,⟨λ_=>uH Y,λ_=>rfl⟩,by first | exact((Ext.refl w).drewN _).drewN _ | exact(Ext.refl w).drewN _⟩
      ·have t5b:(x.phase != 4)=false:=by simpa using t5
       go_enter Tryz.func174,Tryz.ntmps174;go_wp2_with fail;go_quiet (first | (go_at_call 172;exact Calls.quiet_of_same (HB _ _ t2)) | (go_at_call 78;refine Calls.quiet_of_same (uD _ _ _ true ?_ _);assumption));go_wp2_with fail;go_quiet (fail);go_wp2_with fail;refine(a3p (w.drewN _) b 14 ad cap (((Ext.refl w).drewN _).keep hd)).mono ?_;rintro e w1 ⟨rfl,rfl⟩;go_wp2_with fail;go_ret;exact⟨true,rfl,⟨λ_=>uH Y,λ_=>rfl⟩,by first | exact((Ext.refl w).drewN _).drewN _ | exact(Ext.refl w).drewN _⟩
     ·obtain⟨g,cap,rfl,hgb⟩:=HFF.L.form (by omega);have hd:=HFF.L.hd;have GS:=uU (c5q HFF.P HFF.O (by omega) t htl T4);have cy:=HFF.L.cell 0 (by omega);obtain⟨y0,hy0⟩:∃z,it F 0=z:=⟨_,rfl⟩;rw[hy0] at cy;cases t5:(x.phase == 4)
      ·have t5b:(x.phase != 4)=true:=by simpa using t5
       have Y:=uU (MK λp=>by rw[p] at t5;simp at t5);clear hy0;go_enter Tryz.func174,Tryz.ntmps174;go_wp2_with fail;go_quiet (first | (go_at_call 172;exact Calls.quiet_of_same (HB _ _ t2)) | (go_at_call 78;refine Calls.quiet_of_same (uD _ _ _ true ?_ _);assumption));go_wp2_with fail;go_quiet (fail);go_wp2_with fail;refine(a1h (w.drewN _) b 14 g 0 F.length cap y0 (by omega) (((Ext.refl w).drewN _).keep hd) (((Ext.refl w).drewN _).keep cy)).mono ?_;rintro e w1 ⟨rfl,rfl⟩;go_wp2_with fail;go_ret;exact⟨true,rfl,⟨λ_=>uH Y,λ_=>rfl⟩,by first | exact((Ext.refl w).drewN _).drewN _ | exact(Ext.refl w).drewN _⟩
      ·have t5b:(x.phase != 4)=false:=by simpa using t5
       have P4:=uU (show x.phase=4 by simpa using t5);cases t6:decide ((t:Int)<y0)
       ·have N:=uU (show ¬eD x i (x.c i) from λm=>of_decide_eq_false t6 (by rw[<-hy0];exact GS.2 (MG m P4)));clear hy0;go_enter Tryz.func174,Tryz.ntmps174;go_wp2_with fail;go_quiet (first | (go_at_call 172;exact Calls.quiet_of_same (HB _ _ t2)) | (go_at_call 78;refine Calls.quiet_of_same (uD _ _ _ true ?_ _);assumption));go_wp2_with fail;go_quiet (fail);go_wp2_with fail;refine(a1h (w.drewN _) b 14 g 0 F.length cap y0 (by omega) (((Ext.refl w).drewN _).keep hd) (((Ext.refl w).drewN _).keep cy)).mono ?_;rintro e w1 ⟨rfl,rfl⟩;go_wp2_with fail;go_ret;exact⟨false,rfl,⟨λf=>by simp at f,λr=>(N r).elim⟩,by first | exact((Ext.refl w).drewN _).drewN _ | exact(Ext.refl w).drewN _⟩
       ·have Y:=uU (MK λ_=>GS.1 (by rw[hy0];exact of_decide_eq_true t6));have t6b:=of_decide_eq_true t6;clear hy0 t6;go_enter Tryz.func174,Tryz.ntmps174;go_wp2_with fail;go_quiet (first | (go_at_call 172;exact Calls.quiet_of_same (HB _ _ t2)) | (go_at_call 78;refine Calls.quiet_of_same (uD _ _ _ true ?_ _);assumption));go_wp2_with fail;go_quiet (fail);go_wp2_with fail;refine(a1h (w.drewN _) b 14 g 0 F.length cap y0 (by omega) (((Ext.refl w).drewN _).keep hd) (((Ext.refl w).drewN _).keep cy)).mono ?_;rintro e w1 ⟨rfl,rfl⟩;go_wp2_with fail;go_ret;exact⟨true,rfl,⟨λ_=>uH Y,λ_=>rfl⟩,by first | exact((Ext.refl w).drewN _).drewN _ | exact(Ext.refl w).drewN _⟩
 ·have N:=uU (show ¬eD x i (x.c i) from λm=>by have:=m.2.1;have:=of_decide_eq_true t1;omega);have t1b:=of_decide_eq_true t1;clear t1;go_enter Tryz.func174,Tryz.ntmps174;go_wp2_with fail;go_quiet (fail);go_wp2_with fail;go_ret;exact⟨false,rfl,⟨λf=>by simp at f,λr=>(N r).elim⟩,(Ext.refl w).drewN _⟩
theorem a2d:a1q x=true↔uE x:=by simp [a1q,uE]
theorem a7z(x:Hp)(b:Nat)(s:Bool)(hs:a1q x=s)(w:World)(c5:w.cell? ⟨b,5,none⟩=some (iv x.phase)):
  Calls Tryz.prog 145 #[.pointer (some ⟨b,0,none⟩)] w λe w'=>e=.returned (.bool s)/\w'=w:=by
 rw[<-hs];exact b0q x b w c5
def a0s(x:Hp)(i:Nat):Bool:=a1q x || ((x.phase == 3) && decide (x.hand<=(i:Int)))
theorem a7o{i:Nat}:a0s x i=true↔a3s x i:=by
 simp [a0s,a3s,a2d]
theorem b2m(x:Hp)(b bn q i:Nat)(w:World)(c5:w.cell? ⟨b,5,none⟩=some (iv x.phase))(c6:w.cell? ⟨b,6,none⟩=some (iv x.hand))(m0:w.cell? ⟨bn,q,none⟩=some (iv i)):
  Calls Tryz.prog 180 #[.pointer (some ⟨b,0,none⟩),.pointer (some ⟨bn,q,none⟩)] w λe w'=>e=.returned (.bool (a0s x i))/\Ext w w':=by
 have HM:=uU (λn s (hs:a1q x=s)=>a7z x b s hs (w.drewN n) (((Ext.refl w).drewN n).keep c5));cases t1:a1q x
 ·cases t2:(x.phase == 3)
  ·have E:=uU (show a0s x i=false by simp [a0s,t1,t2]);go_enter Tryz.func180,Tryz.ntmps180;go_wp2_with fail;go_quiet ((go_at_call 145;exact Calls.quiet_of_same (HM _ _ t1)));go_wp2_with fail;go_ret;exact⟨by rw[uH E];rfl,(Ext.refl w).drewN _⟩
  ·by_cases t3:x.hand<=(i:Int)
   ·have E:=uU (show a0s x i=true by simp [a0s,t2,t3]);go_enter Tryz.func180,Tryz.ntmps180;go_wp2_with fail;go_quiet ((go_at_call 145;exact Calls.quiet_of_same (HM _ _ t1)));go_wp2_with fail;go_ret;exact⟨by rw[uH E];rfl,(Ext.refl w).drewN _⟩
   ·have E:=uU (show a0s x i=false by simp [a0s,t1];omega);have t3b:decide (x.hand<=(i:Int))=false:=decide_eq_false t3;clear t3;go_enter Tryz.func180,Tryz.ntmps180;go_wp2_with fail;go_quiet ((go_at_call 145;exact Calls.quiet_of_same (HM _ _ t1)));go_wp2_with fail;go_ret;exact⟨by rw[uH E];rfl,(Ext.refl w).drewN _⟩
 ·have E:=uU (show a0s x i=true by simp [a0s,t1]);go_enter Tryz.func180,Tryz.ntmps180;go_wp2_with fail;go_quiet ((go_at_call 145;exact Calls.quiet_of_same (HM _ _ t1)));go_wp2_with fail;go_ret;exact⟨by rw[uH E];rfl,(Ext.refl w).drewN _⟩
def b5i(x:Hp):Prop:=(∀g,g∈x.gray->(0<=g/\g<x.cells.length)/\(x.c g.toNat).color=1)/\x.gray.Nodup
theorem b5j(x:Hp)(k:Nat)(h:k<x.gray.length):x.gray[k]=it x.gray k:=a8h _ _ h
theorem a9b(x:Hp)(b:Nat)(w:World)(h:VAt w b x ar kr ac kc ag kg an kn)(hn:x.gray.length<=8000):
  Calls Tryz.prog 181 #[.pointer (some ⟨b,0,none⟩)] w λe w'=>∃r:Bool,Hid (e=.returned (.bool r))/\(r=true↔b5i x)/\Ext w w':=by
 have c8:=h.H.c8;have hb:b<w.heap.size:=uL c8;have lc:=h.H.lc;have HV:=uU h;clear h;go_enter Tryz.func181,Tryz.ntmps181;go_wp2_with fail;go_loopw [12] (λi wr=>∃(k:Nat) (v1:Value) (L1:List Int),k<=x.gray.length/\i=.int .i64 k/\Hid (∀j,j<k->(0<=it x.gray j/\it x.gray j<x.cells.length)/\(x.c (it x.gray j).toNat).color=1)/\eX wr w.heap.size w.heap.size 0 v1 L1/\Ho L1/\L1.Perm (x.gray.take k)/\Ext w wr) (λi _=>x.gray.length-(intOf i).toNat)
 case atStart=>exact⟨0,_,[],Nat.zero_le _,rfl,λj hj=>by omega,eX.nil (by simp [go_sem]) (by simp [go_sem]),Ho.nil,by simp,(Ext.refl w).alloc _⟩
 case round=>
  clear c8;obtain⟨k,v1,L1,hk,rfl,HA,ls,ho,hp,hbl⟩:=hrel;have HLS:=uU ls;have HO:=uU ho;have HP:=uU hp;have hlen:L1.length<=1000000000:=by have:=hp.length_eq;simp at this;omega
  clear ls ho hp;by_cases hlt:k<x.gray.length
  ·have hv:=HV.ext hbl;obtain⟨bg,og,rfl,pg⟩:=hv.H.G k hlt;unfold yQ at pg;rw[b5j x k hlt] at pg;have d13:=hv.n13;have HV1:=uU hv;have hk0:(0:Int)<=(k:Int):=by omega
   have hk1:(k:Int)<(x.gray.length:Int):=by omega
   obtain⟨y,hy⟩:∃z,it x.gray k=z:=⟨_,rfl⟩;rw[hy] at pg;have HY:=uU hy;have MEM:=uU (show y∈x.gray by rw[<-hy];exact a2m _ _ hlt);have hbs:w.heap.size<=wr.heap.size:=hbl.size;clear hv hy;simp only [Nat.mul_one] at pg;cases t1:uZ y 0 ((x.cells.length:Int)-1)
   ·have N:=uU (show ¬b5i x from λr=>by have:=a0a t1;have:=(r.1 y MEM).1;omega);go_wp2_with fail;refine(uD _ _ _ false t1 _).mono ?_;rintro e w2 ⟨rfl,rfl⟩;go_wp2_with fail;go_ret;exact⟨false,rfl,⟨λf=>by simp at f,λr=>(N r).elim⟩,hbl⟩
   ·obtain⟨i,hi⟩:∃i:Nat,y=(i:Int):=⟨y.toNat,by have:=uJ t1;omega⟩;subst hi;have hin:i<x.cells.length:=by have:=uJ t1;omega
    obtain⟨bn,on,bc,oc,e1,e2,m0,m1⟩:=HV1.N i hin;subst e1;subst e2;obtain⟨bc2,oc2,ap,kp,e3,C⟩:=HV1.H.cell i hin;cases e3;have p5:=C.p5;have hi0:(0:Int)<=(i:Int):=by omega
    have hi1:(i:Int)<(x.cells.length:Int):=by omega
    clear C m0;cases t2:((x.c i).color == 1)
    ·have t2b:((x.c i).color != 1)=true:=by simpa using t2
     have N:=uU (show ¬b5i x from λr=>by have:=(r.1 _ MEM).2;simp at this t2;omega);go_wp2_with fail;refine(uD _ _ _ true t1 _).mono ?_;rintro e w2 ⟨rfl,rfl⟩;go_wp2_with fail;go_ret;exact⟨false,rfl,⟨λf=>by simp at f,λr=>(N r).elim⟩,hbl⟩
    ·have t2b:((x.c i).color != 1)=false:=by simpa using t2
     have OK:=uU (show ∀j,j<k+1->(0<=it x.gray j/\it x.gray j<x.cells.length)/\(x.c (it x.gray j).toNat).color=1 from λj hj=>by
      by_cases e:j=k
      ·rw[e,uH HY];exact⟨⟨hi0,hi1⟩,by simpa using t2⟩
      ·exact HA j (by omega))
     have TK:=uU (show x.gray.take (k+1)=x.gray.take k++[(i:Int)] by
      rw[<-uH HY,<-b5j x k hlt];exact(List.take_append_getElem hlt).symm)
     go_wp2_with fail;refine(uD _ _ _ true t1 _).mono ?_;rintro e w2 ⟨rfl,rfl⟩;go_wp2_with fail;refine(b2j _ w.heap.size w.heap.size 0 v1 L1 (i:Int) HLS hbs HO (by omega)).mono ?_;rintro e w3 ⟨rfl,v3,L3,l3,o3,p3,q3⟩
     have R:=uU (show eX w3 w.heap.size w.heap.size 0 v3 L3/\Ho L3/\L3.Perm (x.gray.take (k+1))/\Ext w w3 from
      ⟨l3,o3,by rw[uH TK];exact(p3.trans (HP.cons _)).trans (List.perm_append_singleton _ _).symm,q3.ext hbl (Nat.le_refl _) (λk hk=>(HLS.rlt k hk).1)⟩)
     clear l3 o3 p3 q3;go_wp2_with fail;go_roundw
     case rel=>exact⟨k+1,v3,L3,by omega,by go_num,OK,R⟩
     case measure=>simp [intOf];omega
  ·have hk2:k=x.gray.length:=by omega
   have P1:=uU (show L1.Nodup↔x.gray.Nodup by have:=uH HP;rw[hk2,List.take_length] at this;exact this.nodup_iff)
   have A1:=uU (show ∀g,g∈x.gray->(0<=g/\g<x.cells.length)/\(x.c g.toNat).color=1 from λg hg=>by
    obtain⟨j,hj,e⟩:=List.getElem_of_mem hg;rw[b5j x j hj] at e;rw[<-e];exact HA j (by omega))
   clear hk2;go_wp2_with fail;refine(b2k _ w.heap.size w.heap.size 0 v1 L1 HLS HO hlen).mono ?_;rintro e w2 ⟨r,rfl,hr,v3,q3⟩;have E2:=uU (q3.ext hbl (Nat.le_refl _) (λk hk=>(HLS.rlt k hk).1));have RR:=uU (show r=true↔b5i x from⟨λe=>⟨A1,P1.1 (hr.1 e)⟩,λq=>hr.2 (P1.2 q.2)⟩);clear q3 hr;go_wp2_with fail;go_ret;exact⟨r,rfl,RR,E2⟩
theorem b2n(x:Hp)(b:Nat)(w:World)(h:VAt w b x ar kr ac kc ag kg an kn)(hn:x.gray.length<=8000)(hc:x.cells.length<=8000):
  Calls Tryz.prog 111 #[.pointer (some ⟨b,0,none⟩)] w λe w'=>∃r:Bool,Hid (e=.returned (.bool r))/\(r=true↔R5 x)/\Ext w w':=by
 have n13:=h.n13;have c8:=h.H.c8;have HV:=uU h;clear h;go_enter Tryz.func111,Tryz.ntmps111;go_wp2_with fail;go_loopw [3,11] (λs i wr=>∃(k u:Nat),k<=x.cells.length/\i=.int .i64 k/\s=.int .i64 u/\u<=k/\Hid (u=(a5j x k).length)/\Hid (∀j,j<k->(x.c j).color=2->a3s x j)/\Ext w wr) (λ_ i _=>x.cells.length-(intOf i).toNat)
 case atStart=>exact⟨0,0,Nat.zero_le _,rfl,rfl,Nat.le_refl _,rfl,λj hj=>by omega,Ext.refl _⟩
 case round=>
  clear n13;obtain⟨k,u,hk,rfl,rfl,huk,hu,HA,hbl⟩:=hrel;by_cases hlt:k<x.cells.length
  ·have hv:=HV.ext hbl;obtain⟨bn,on,bc,oc,rfl,rfl,m0,m1⟩:=hv.N k hlt;obtain⟨bc2,oc2,ap,kp,e2,C⟩:=hv.H.cell k hlt;cases e2;have p5:=C.p5;have d13:=hv.n13;have HV1:=uU hv;have hk0:(0:Int)<=(k:Int):=by omega
   have hk1:(k:Int)<(x.cells.length:Int):=by omega
   clear C hv
   have step:((x.c k).color=2->a3s x k)->Hid (∀j,j<k+1->(x.c j).color=2->a3s x j):=λhc j hj=>by
    by_cases e:j=k
    ·rw[e];exact hc
    ·exact HA j (by omega)
   have ST:=uU step;clear step;cases s1:((x.c k).color == 1)
   ·have U2:=uU (show u=(a5j x (k+1)).length by have:=uH hu;unfold a5j at *;rw[a2p _ _ _ (by simpa [a6b] using s1)];exact this);cases s2:((x.c k).color == 2)
    ·have OK:=uH ST (λe=>by rw[e] at s2;simp at s2);go_wp2_with fail;go_roundw
     case rel=>exact⟨k+1,u,by omega,by go_num,rfl,by omega,U2,OK,hbl⟩
     case measure=>simp [intOf];omega
    ·go_wp2_with fail;refine(b2m x b bn (on+k*2) k _ HV1.H.c5 HV1.H.c6 m0).mono ?_;rintro e w2 ⟨rfl,hq⟩;have x2:=hbl.trans hq;cases tb:a0s x k
     ·have N:=uU (show ¬R5 x from λr=>by
       have:=((a7x x).1 r).1 k hlt (by simpa using s2);rw[<-a7o,tb] at this;simp at this)
      go_wp2_with fail;go_ret;exact⟨false,rfl,⟨λf=>by simp at f,λr=>(N r).elim⟩,x2⟩
     ·have OK:=uH ST (λ_=>a7o.1 tb);go_wp2_with fail;go_roundw
      case rel=>exact⟨k+1,u,by omega,by go_num,rfl,by omega,U2,OK,x2⟩
      case measure=>simp [intOf];omega
   ·have U2:=uU (show u+1=(a5j x (k+1)).length by have:=uH hu;unfold a5j at *;rw[a2o _ _ _ (by simpa [a6b] using s1)];simp;exact this);have OK:=uH ST (λe=>by rw[e] at s1;simp at s1);go_wp2_with fail;go_roundw
    case rel=>exact⟨k+1,u+1,by omega,by go_num,by go_num,by omega,U2,OK,hbl⟩
    case measure=>simp [intOf];omega
  ·have hk2:k=x.cells.length:=by omega
   have U:=uU (show u=(a5j x x.cells.length).length by have:=uH hu;rw[hk2] at this;exact this);have A1:=uU (show ∀j,j<x.cells.length->(x.c j).color=2->a3s x j from λj hj=>uH HA j (by omega));clear hk2 hu HA;have h1:=HV.ext hbl;have d8:=h1.H.c8;have HV1:=uU h1;clear h1;go_wp2_with fail;refine(b0q x b _ HV1.H.c5).mono ?_;rintro e w2 ⟨rfl,rfl⟩;cases tm:a1q x
   ·have NM:=uU (show ¬uE x from λm=>by rw[<-a2d,tm] at m;simp at m);by_cases hu0:0<u
    ·have hu0b:(0:Int)<(u:Int):=by omega
     have N:=uU (show ¬R5 x from λr=>by
      have:=((a7x x).1 r).2.1 NM;have:=uH U;omega)
     go_wp2_with fail;go_ret;exact⟨false,rfl,⟨λf=>by simp at f,λr=>(N r).elim⟩,hbl⟩
    ·have hu0b:u=0:=by omega
     subst hu0b;cases tl:((x.gray.length:Int) == 0)
     ·have N:=uU (show ¬R5 x from λr=>by
       have:=((a7x x).1 r).2.2.1;have:=uH U;have tl2:=beq_eq_false_iff_ne.1 tl;omega)
      go_wp2_with fail;go_ret;exact⟨false,rfl,⟨λf=>by simp at f,λr=>(N r).elim⟩,hbl⟩
     ·go_wp2_with fail;refine(a9b x b _ HV1 hn).mono ?_;rintro e w3 ⟨r,rfl,hr,hq⟩;have x3:=hbl.trans hq
      have RR:=uU (show r=true↔R5 x by
       rw[a7x];refine⟨λe=>⟨A1,λ_=>U.symm,?_,(hr.1 e).1,(hr.1 e).2⟩,λq=>hr.2 ⟨q.2.2.2.1,q.2.2.2.2⟩⟩;have:=uH U;simp at tl;rw[tl];exact this)
      clear hr;go_wp2_with fail;go_ret;exact⟨r,rfl,RR,x3⟩
   ·have YM:=uU (a2d.1 tm);cases tl:((x.gray.length:Int) == (u:Int))
    ·have N:=uU (show ¬R5 x from λr=>by
      have:=((a7x x).1 r).2.2.1;have:=uH U;simp at tl;omega)
     go_wp2_with fail;go_ret;exact⟨false,rfl,⟨λf=>by simp at f,λr=>(N r).elim⟩,hbl⟩
    ·go_wp2_with fail;refine(a9b x b _ HV1 hn).mono ?_;rintro e w3 ⟨r,rfl,hr,hq⟩;have x3:=hbl.trans hq
     have RR:=uU (show r=true↔R5 x by
      rw[a7x];refine⟨λe=>⟨A1,λnm=>(nm YM).elim,?_,(hr.1 e).1,(hr.1 e).2⟩,λq=>hr.2 ⟨q.2.2.2.1,q.2.2.2.2⟩⟩;have:=uH U;simp at tl;omega)
     clear hr;go_wp2_with fail;go_ret;exact⟨r,rfl,RR,x3⟩
def a4d(w:World)(x:Hp)(ac:Option Addr):Prop:=∀i,i<x.cells.length->∀bc oc ad l c,ac=some ⟨bc,oc,none⟩->w.cell? ⟨bc,oc+i*8+7,none⟩=some (.slice ad l c)->l<=c\/l=0
theorem a4d.ext(h:a4d w x ac)(hh:HAt w b x ar kr ac kc ag kg)(e:Ext w w'):a4d w' x ac:=λi hi bc oc ad l c ha hc=>by
 obtain⟨b2,o2,ap,kp,e2,C⟩:=hh.cell i hi;rw[ha] at e2;cases e2;have:=(C.ext e).p7;rw[this] at hc;cases hc;exact h i hi _ _ _ _ _ ha C.p7
theorem a8a(r4:R4 x)(m:uE x)(i k:Nat)(hi:i<x.cells.length)(hk:k<(x.c i).prs.length):
  (uK ((x.c i).p k).key x.cells.length/\uK ((x.c i).p k).val x.cells.length)/\(hwB x ((x.c i).p k).key=true↔cQ x ((x.c i).p k).key)/\(hwB x ((x.c i).p k).val=true↔cQ x ((x.c i).p k).val):=by
 have nd:∀j,¬cU x j:=λj d=>by have:=d.1;unfold uE at m;omega
 have hm:cX x i k:=⟨by unfold uE at m;omega,λe=>by unfold uE at m;omega⟩;have hp:=((r4.2 i hi).2 k hk).2 (nd i)
 have key:∀y:Wd,cN x y (¬cX x i k)->(hwB x y=true↔cQ x y):=λy hl=>by
  unfold cQ hwB zC;simp only [Bool.and_eq_true,beq_iff_eq];constructor
  ·intro h;exact⟨h.1,h.2.2⟩
  ·intro h;refine⟨h.1,?_,h.2⟩;rcases hl.2 h.1 with h2 | h2
   ·exact(h2.2 hm).elim
   ·exact h2.1
 exact⟨⟨hp.1.1,hp.2.1⟩,key _ hp.1,key _ hp.2⟩
theorem a2z(r2:R2 x)(i:Nat)(hi:i<x.cells.length)(h:cY (x.c i)):(x.c i).st=1:=by
 have:=r2.1 i hi;unfold cY at h;unfold cE eD yX at this;omega
def R7b(x:Hp):Prop:=
 (∀i,i<x.cells.length->¬(a1n (x.c i)=true/\zC (x.c i)=true/\(x.phase=2\/(i:Int)<x.hand))/\((x.c i).color=2->¬∃k,k<(x.c i).prs.length/\(hwB x ((x.c i).p k).key=true\/hwB x ((x.c i).p k).val=true)))
def R7c(x:Hp):Prop:=x.phase=2->x.gray.length≠0->∀k:Nat,k<x.sub.toNat->¬(hwB x ((x.c x.g0).p k).key=true\/hwB x ((x.c x.g0).p k).val=true)
theorem g0_ok(r5:R5 x)(h:x.gray.length≠0):x.g0<x.cells.length/\x.gray.getD 0 0=(x.g0:Int)/\(x.c x.g0).color=1:=by
 have hm:x.gray.getD 0 0∈x.gray:=a2m x.gray 0 (by omega);have:=((a7x x).1 r5).2.2.2.1 _ hm;unfold Hp.g0;exact⟨by omega,by omega,this.2⟩
theorem R7_iff(r2:R2 x)(r4:R4 x)(r5:R5 x)(r6:R6 x)(m:uE x):R7 x↔R7b x/\R7c x:=by
 have mp:=λi k hi hk=>a8a r4 m i k hi hk
 have hsub:x.phase=2->x.gray.length≠0->x.sub<=(x.c x.g0).prs.length:=λp g=>(r6.2.1 p).2.2 g
 constructor
 ·intro h;have h:=h m;refine⟨λi hi=>⟨λ⟨a,b,c⟩=>?_,λhc ⟨k,hk,hw⟩=>?_⟩,λp g k hk hw=>?_⟩
  ·refine(h i hi).1 ⟨a4c.1 a,?_,c⟩;unfold zC at b;simp at b;exact b.2
  ·have:=(h i hi).2 k (by unfold cC;rw[if_pos hc];exact hk);rcases hw with hw | hw
   ·exact this.1 ((mp i k hi hk).2.1.1 hw)
   ·exact this.2 ((mp i k hi hk).2.2.1 hw)
  ·obtain⟨g1,g2,g3⟩:=g0_ok r5 g;have hs:=hsub p g;have hk2:k<(x.c x.g0).prs.length:=by omega
   have:=(h x.g0 g1).2 k (by unfold cC;rw[if_neg (by omega),if_pos ⟨p,g,g2⟩];exact hk);rcases hw with hw | hw
   ·exact this.1 ((mp _ k g1 hk2).2.1.1 hw)
   ·exact this.2 ((mp _ k g1 hk2).2.2.1 hw)
 ·intro⟨hb,hc⟩ _ i hi;refine⟨λ⟨a,b,c⟩=>(hb i hi).1 ⟨a4c.2 a,?_,c⟩,λk hk=>?_⟩
  ·unfold zC;simp;exact⟨a2z r2 i hi a,b⟩
  ·unfold cC at hk;by_cases e1:(x.c i).color=2
   ·rw[if_pos e1] at hk;have:=(hb i hi).2 e1;exact⟨λw=>this ⟨k,hk,.inl ((mp i k hi hk).2.1.2 w)⟩,λw=>this ⟨k,hk,.inr ((mp i k hi hk).2.2.2 w)⟩⟩
   ·rw[if_neg e1] at hk;by_cases e2:x.phase=2/\x.gray.length≠0/\x.gray.getD 0 0=(i:Int)
    ·rw[if_pos e2] at hk;obtain⟨g1,g2,g3⟩:=g0_ok r5 e2.2.1;have hig:i=x.g0:=by have:=e2.2.2;omega
     have hs:=hsub e2.1 e2.2.1;have hk2:k<(x.c i).prs.length:=by rw[hig];omega
     have:=hc e2.1 e2.2.1 k hk;rw[<-hig] at this;exact⟨λw=>this (.inl ((mp i k hi hk2).2.1.2 w)),λw=>this (.inr ((mp i k hi hk2).2.2.2 w))⟩
    ·rw[if_neg e2] at hk;omega
end Go.Proofs.YtddkhnclmeikfaaGreat
