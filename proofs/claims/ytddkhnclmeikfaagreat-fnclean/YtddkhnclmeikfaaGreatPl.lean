import Derived.Test.YtddkhnclmeikfaaGreatPr
set_option maxRecDepth 100000
set_option maxHeartbeats 1000000
namespace Go.Proofs.YtddkhnclmeikfaaGreat
open Go.RowKit
attribute [local go_sem ↓] Go.wp_at_zero Go.wp_at_succ
theorem c5v[Inhabited uQ]{B:Nat}{w:World}{b:Nat}{x:Hp}{ar:Option Addr}{kr:Nat}{v4 v8:Value}{br bn:Nat}{cB cO:Nat->Nat}{pb:Nat->Nat}{pa:Nat->Option Addr}{pk:Nat->Nat}{kn hd:Nat}{vf:Value}{F:List Int}{vk:Value}{K:List Nat}{role:Nat->Nat}(h:SAt B w b x ar kr v4 v8 br cB cO bn pb pa pk kn hd vf F vk K role)(s:Snd x)(hp:x.E=2)(i:Nat)(G:List Int)(hg:x.D=(i:Int)::G)(hin:i<x.A.length)(k:Nat)(hk:x.sub=(k:Int))(hkl:k<(x.c i).F.length)(a:World)(ha:a.heap.size<=B)(hx:Ext a w):
  Calls Tryz.prog 329 #[.agg #[.pointer (some ⟨b,0,none⟩)]] w λe w'=>e=.returned (zK (dY x).E b)/\Hid (SAt B w' b (dY x) ar kr v4 v8 br cB cO bn pb pa pk kn hd vf F vk K role)/\Ext a w':=by
 have ei:((i:Int)).toNat=i:=by omega
 have E:=uU (show dY x={ shadeW (shadeW x ((x.c i).p k).key) ((x.c i).p k).val with sub:=(k:Int)+1 } by
  have ek:x.sub.toNat=k:=by omega
  unfold dY;rw[hg];simp only [ei,if_pos (show x.sub<((x.c i).F.length:Int) by omega),ek];rw[hk])
 have EP:=uU (show(dY x).E=2 by rw[uH E];exact((a0a _ _).2.2.1.trans (a0a _ _).2.2.1).trans hp);have H:=uU h;have p200:=s.ok.p200 i hin;have n8:=s.ok.n8;have HG:=uU (s.good_pair (.inr hp) i k hin hkl)
 have FM:=uU (show uE ((x.c i).p k).key x.A.length/\uE ((x.c i).p k).val x.A.length from by
  have h1:=((s.r4.2 i hin).2 k hkl).2 (λd=>by have:=d.1;omega);exact⟨h1.1.1,h1.2.1⟩)
 have S:=uU s;have XA:=(Ext.refl w).alloc (.cells #[.pointer (some ⟨b,0,none⟩)] 234);have RG:=uU (show RAt w b bn hd ((i:Int)::G) by have:=h.sb.rg;rw[hg] at this;exact this);have QA:=uU (a6y b bn hd i G _ (RG.block (XA.block b h.sb.nb.1)));have XA2:=uU XA;have hbw:b<w.heap.size:=h.sb.nb.1;have lo:=h.sb.lo.1;have hn:0<x.A.length:=by omega
 have HK:=uU hk;have kk:(k:Int)<((x.c i).F.length:Int):=by omega
 have k0:(0:Int)<=(k:Int):=by omega
 clear h hp XA hg hk s;go_enter Tryz.func329,Tryz.ntmps329;go_wp2_with fail;refine QA.mono ?_;rintro e w1 ⟨rfl,x1⟩;rw[ei];have r0:w1.cell? ⟨w.heap.size,0,none⟩=some (.pointer (some ⟨b,0,none⟩)):=x1.keep (by simp [go_sem]);have X1:=uU (XA2.trans x1);have H1:=uU (H.ext X1);have m1:=(H1.sb.nd i hin).2;have p7:=H1.rw.p7 i hin;rw[(H.rw.pl i hin (H.rw.pw hin (by omega))).1] at p7;have c7:w1.cell? ⟨b,7,none⟩=some (iv k):=by have:=H1.sb.bx.2.2.2.2.2.2.2.1;rw[uH HK] at this;exact this
 obtain⟨y0,y1,y2,y3,y4,yy5⟩:=H1.rw.p i hin k hkl;have hb1:b<w1.heap.size:=uL c7;have hb2:w.heap.size<w1.heap.size:=uL r0;have hbn:bn<w1.heap.size:=uL m1;have hbc:cB i<w1.heap.size:=uL p7;have hpb:pb i<w1.heap.size:=uL y0;have zn:=λn j=>a0p w1 n #[.int .i64 0,.int .i64 0,.int .i64 0,.int .i64 0,.int .i64 0,.int .i64 0] 154 j
 have zf:=λn j=>a3k w1 n #[.int .i64 0,.int .i64 0,.int .i64 0,.int .i64 0,.int .i64 0,.int .i64 0] 154 j
 have zo:=λn o b j (h:b<w1.heap.size)=>a3w w1 n o b j h
 clear x1 XA2 QA ei;go_wp2_with fail;go_quiet (fail);obtain⟨m2,rfl⟩:∃m,m=nq:=⟨_,rfl⟩;go_wp2_with fail
 go_region
 all_goals
  obtain⟨W2,hW2⟩:∃W,W=a4d ((w1.drewN (m2+1)).alloc (.cells #[.int .i64 0,.int .i64 0,.int .i64 0,.int .i64 0,.int .i64 0,.int .i64 0] 154)) w1.heap.size ((x.c i).p k):=⟨_,rfl⟩;have PB:=b2s w1 (m2+1) ((x.c i).p k) 154;rw[<-hW2] at PB;unfold a4d at hW2;rw[<-hW2];clear hW2 zn zf zo y0 y1 y2 y3 y4 yy5 m1 p7 c7 hbn hpb;obtain⟨x2,pp0,pp1,pp2,pp3,pp4,pp5⟩:=PB;have H2:=uU (H1.ext x2);have X2:=uU (X1.trans x2);have s0:=x2.keep r0;have hs:w1.heap.size<W2.heap.size:=uL pp0;clear r0;obtain⟨z,hz⟩:∃z,z=shadeW x ((x.c i).p k).key:=⟨_,rfl⟩
  have SZ:=uU (show Snd z/\eE z ((x.c i).p k).val/\uE ((x.c i).p k).val z.A.length/\z.sub=(k:Int) by
   rw[hz];have e:=a0a x ((x.c i).p k).key;exact⟨S.shdW _ HG.1,HG.2.keep e.2.1 (a2r x _ HG.1),by rw[e.2.1];exact FM.2,e.2.2.2.2.trans HK⟩)
  have HZ:=uU hz;have hs0:w.heap.size<W2.heap.size:=uL s0;have hbcw:∀j,j<x.A.length->cB j<w.heap.size:=λj hj=>(H.rw.nc j hj).1.1
  have ZLN:=uU (show z.A.length=x.A.length by rw[hz];exact(a0a x _).2.1);clear hz;go_wp2_with fail;go_cut [] (λwx=>Hid (SAt B wx b z ar kr v4 v8 br cB cO bn pb pa pk kn hd vf F vk K role)/\Hid (Ext a wx)/\Hid (wx.cell? ⟨w.heap.size,0,none⟩=some (.pointer (some ⟨b,0,none⟩))/\wx.cell? ⟨w1.heap.size,3,none⟩=some (iv ((x.c i).p k).val.k)/\wx.cell? ⟨w1.heap.size,4,none⟩=some (iv ((x.c i).p k).val.n)/\wx.cell? ⟨w1.heap.size,5,none⟩=some (iv ((x.c i).p k).val.a)))
  case first=>
   go_region_with (first | (have _:=LA;go_at_call 82;refine(a8q H3 ((x.c i).p k).key HG.1 (λj hj=>(a4n S.ok).2 j hj) a ha X3).mono ?_;rintro e w4 ⟨rfl,h4,x4,fr⟩;rw[<-uH HZ] at h4;have H4:=uU h4;have X4:=uU x4;have FR:=uU (show ∀q,q<w3.heap.size->q≠b->w.heap.size<=q->w4.heap[q]?=w3.heap[q]? from λq h1 h2 h3=>uH fr q h1 h2 (λj hj=>by have:=hbcw j hj;omega));clear h4 x4 fr) | (go_at_call 123;refine(a6z (H2.ext (Ext.refl W2).drew) S.r2 ((x.c i).p k).key HG.1 FM.1).mono ?_;rintro e w3 ⟨rfl,x3⟩;have LA:=True.intro;have x23:=Ext.trans (Ext.refl W2).drew x3;have H3:=uU (H2.ext x23);have X3:=uU (hx.trans (X2.trans x23));have t0:=x23.keep s0;have t1:=x23.keep pp1;have t2:=x23.keep pp2;have t3:=x23.keep pp3;have t4:=x23.keep pp4;have t5:=x23.keep pp5;have ht1:w.heap.size<w3.heap.size:=uL t0;have ht2:w1.heap.size<w3.heap.size:=uL t3;clear x3 x23))
   all_goals
    go_wp2_with fail;go_meet;exact⟨H4,X4,⟨(World.cell?_of_block (a:=⟨w.heap.size,0,none⟩) (FR w.heap.size ht1 (by omega) (by omega))).trans t0,(World.cell?_of_block (a:=⟨w1.heap.size,3,none⟩) (FR w1.heap.size ht2 (by omega) (by omega))).trans t3,(World.cell?_of_block (a:=⟨w1.heap.size,4,none⟩) (FR w1.heap.size ht2 (by omega) (by omega))).trans t4,(World.cell?_of_block (a:=⟨w1.heap.size,5,none⟩) (FR w1.heap.size ht2 (by omega) (by omega))).trans t5⟩⟩
  case rest=>
   obtain⟨g4,xa4,cl4⟩:=hcut;obtain⟨W4,hW4⟩:∃W,W=wc:=⟨_,rfl⟩;subst hW4;have q0:=cl4.1;have q3:=cl4.2.1;have q4:=cl4.2.2.1;have q5:=cl4.2.2.2;have hq0:w.heap.size<W4.heap.size:=uL q0;have hq3:w1.heap.size<W4.heap.size:=uL q3;clear cl4 pp0 pp1 pp2 pp3 pp4 pp5 s0 hs hs0;go_wp2_with fail;go_cut [] (λwx=>Hid (SAt B wx b (shadeW z ((x.c i).p k).val) ar kr v4 v8 br cB cO bn pb pa pk kn hd vf F vk K role)/\Hid (Ext a wx)/\Hid (wx.cell? ⟨w.heap.size,0,none⟩=some (.pointer (some ⟨b,0,none⟩))))
   case first=>
    go_region_with (first | (have _:=LA;go_at_call 82;refine(a8q H3 ((x.c i).p k).val SZ.2.1 (λj hj=>(a4n SZ.1.ok).2 j hj) a ha X3).mono ?_;rintro e w4 ⟨rfl,h4,x4,fr⟩;have H4:=uU h4;have X4:=uU x4;have FR:=uU (show ∀q,q<w3.heap.size->q≠b->w.heap.size<=q->w4.heap[q]?=w3.heap[q]? from λq h1 h2 h3=>uH fr q h1 h2 (λj hj=>by have:=hbcw j (by rw[<-uH ZLN];exact hj);omega));clear h4 x4 fr) | (go_at_call 123;refine(a6z (g4.ext (Ext.refl W4).drew) SZ.1.r2 ((x.c i).p k).val SZ.2.1 SZ.2.2.1).mono ?_;rintro e w3 ⟨rfl,x3⟩;have LA:=True.intro;have x23:=Ext.trans (Ext.refl W4).drew x3;have H3:=uU (g4.ext x23);have X3:=uU (xa4.trans x23);have t0:=x23.keep q0;have t3:=x23.keep q3;have t4:=x23.keep q4;have t5:=x23.keep q5;have ht1:w.heap.size<w3.heap.size:=uL t0;clear x3 x23))
    all_goals
     go_wp2_with fail;go_meet;exact⟨H4,X4,(World.cell?_of_block (a:=⟨w.heap.size,0,none⟩) (FR w.heap.size ht1 (by omega) (by omega))).trans t0⟩
   case rest=>
    obtain⟨g6,xa6,cl6⟩:=hcut;have g0:=uH cl6;have d7:wc.cell? ⟨b,7,none⟩=some (iv k):=by have:=g6.sb.bx.2.2.2.2.2.2.2.1;rw[(a0a _ _).2.2.2.2,SZ.2.2.2] at this;exact this
    have g7:=g6.sb.nb.2 7;have hb6:b<wc.heap.size:=uL d7;have hs6:w.heap.size<wc.heap.size:=uL g0;have FN:=uU (g6.subs ((k:Int)+1));have XN:=uU (xa6.setCell (p:=⟨b,7,none⟩) (show a.heap.size<=b by omega) (iv ((k:Int)+1)));clear q0 q3 q4 q5 hq0 hq3 cl6 g6 xa6;go_wp2_with fail;go_ret;exact⟨by rw[uH EP];rfl,by rw[uH E,<-uH HZ];exact uH FN,XN⟩
end Go.Proofs.YtddkhnclmeikfaaGreat
