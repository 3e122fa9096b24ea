import Derived.Test.YtddkhnclmeikfaaGreatPr
set_option maxRecDepth 100000
set_option maxHeartbeats 1000000
namespace Go.Proofs.YtddkhnclmeikfaaGreat
open Go.RowKit
attribute [local go_sem ↓] Go.wp_at_zero Go.wp_at_succ
variable{B b kr br bn kn hd:Nat}{w:World}{x:Hp}{ar:Option Addr}{v4 v8 vf vk:Value}{cB cO pb pk role:Nat->Nat}{pa:Nat->Option Addr}{F:List Int}{K:List Nat}
theorem c5y:(Tryz.prog.info? 126).map (λi=>(i.zero,i.size,i.bytes))=some (some (.pointer none),1,8):=by kernel_rfl
theorem SAt.white[Inhabited uQ](h:SAt B w b x ar kr v4 v8 br cB cO bn pb pa pk kn hd vf F vk K role)(i:Nat)(hi:i<x.A.length):SAt B (w.setCell ⟨cB i,cO i+5,none⟩ (iv 0)) b { x with A:=x.A.set i (a1i (x.c i)) } ar kr v4 v8 br cB cO bn pb pa pk kn hd vf F vk K role:=by
 have hn:0<x.A.length:=by omega
 refine h.setc hi rfl (uZ.setCell (S:=λq=>q=cB i) (uZ.refl _ w) (p:=⟨cB i,cO i+5,none⟩) rfl _) ?_ (λk hk=>uC _ (.inr (by omega))) ((h.rw.nc i hi).1.set _ _);obtain⟨a0,a1,a2,a3,a4,a5,a6⟩:=h.rw.s i hi;refine⟨?_,?_,?_,?_,?_,World.cell?_setCell_same _ _ _ a5,?_⟩
 ·rw[uC _ (.inr (by omega))];exact a0
 ·rw[uC _ (.inr (by omega))];exact a1
 ·rw[uC _ (.inr (by omega))];exact a2
 ·rw[uC _ (.inr (by omega))];exact a3
 ·rw[uC _ (.inr (by omega))];exact a4
 ·rw[uC _ (.inr (by omega))];exact a6
theorem c2f[Inhabited uQ](h:SAt B w b x ar kr v4 v8 br cB cO bn pb pa pk kn hd vf F vk K role)(n8:x.A.length<=8000)(hp:x.E=3)(i:Nat)(hi:x.I=(i:Int))(hin:i<x.A.length)(hs:((x.c i).st == 1)=true)(hc:((x.c i).J == 0)=false)(hK:K.length<=8000)(a:World)(ha:a.heap.size<=B)(hx:Ext a w):
  Calls Tryz.prog 331 #[.agg #[.pointer (some ⟨b,0,none⟩)]] w λe w'=>e=.returned (zK (dQ x).E b)/\Hid (∃vk' role',SAt B w' b (dQ x) ar kr v4 v8 br cB cO bn pb pa pk kn hd vf F vk' (K++[i]) role')/\Ext a w':=by
 have ei:x.I.toNat=i:=by omega
 have E:=uU (show dQ x={ x with A:=x.A.set i (a1i (x.c i)),I:=(i:Int)+1 } by
  unfold dQ;rw[if_neg (by omega),ei,if_neg (by simp [whB,hc]),hi])
 have EP:=uU (show(dQ x).E=3 by rw[uH E];exact hp);have H:=uU h;obtain⟨i0,hi0,hy0,hy1,hy2⟩:=info_parts c5y;have XA:=(Ext.refl w).alloc (.cells #[.pointer (some ⟨b,0,none⟩)] 235);have c6:=h.sb.bx.2.2.2.2.2.2.1;rw[hi] at c6;have QA:=uU (a1q b x.A.length kn bn i _ (XA.keep c6) (XA.keep h.sb.n13) hin);have XA2:=uU XA;have hbw:b<w.heap.size:=h.sb.nb.1;have lo:=h.sb.lo.1;have hn:0<x.A.length:=by omega
 have HI:=uU hi;have WH:=uU (show whB (x.c i)=false by simp [whB,hc]);have HBC:=uU (h.rw.nc i hin);clear h hp XA hi c6 ei hc;go_enter Tryz.func331,Tryz.ntmps331;go_wp2_with fail;refine QA.mono ?_;rintro e w1 ⟨rfl,x1⟩;have r0:w1.cell? ⟨w.heap.size,0,none⟩=some (.pointer (some ⟨b,0,none⟩)):=x1.keep (by simp [go_sem]);have X1:=uU (XA2.trans x1);have H1:=uU (H.ext X1);have m1:=(H1.sb.nd i hin).2;have p0:=(H1.rw.s i hin).1;have p5:=(H1.rw.s i hin).2.2.2.2.2.1;have fc:=(H1.rw.nc i hin).1.2 (cO i+5);have QS:=uU (a5o (x.c i) bn i (cB i) (cO i) w1 m1 (H1.rw.s i hin));rw[uH WH] at QS;clear x1 XA2 QA;go_wp2_with fail;refine QS.mono ?_;rintro e w2 ⟨rfl,hw2⟩;subst hw2;have G2:=uU (H1.white i hin);obtain⟨W2,hW2⟩:∃W,W=w2.setCell ⟨cB i,cO i+5,none⟩ (iv 0):=⟨_,rfl⟩;rw[<-hW2] at G2;have X2:=uU (show Ext a W2 by rw[hW2];exact(hx.trans X1).setCell (p:=⟨cB i,cO i+5,none⟩) (Nat.le_trans ha HBC.2) _)
 have s0:W2.cell? ⟨w.heap.size,0,none⟩=some (.pointer (some ⟨b,0,none⟩)):=by
  rw[hW2,uC _ (.inl (by have:=HBC.1.1;omega))];exact r0
 have k17:=G2.sb.k0;have hs2:w.heap.size<W2.heap.size:=uL s0;have hbW:b<W2.heap.size:=uL k17;have hbc2:cB i<w2.heap.size:=uL p5;obtain⟨avk,kvk,hvk⟩:∃a k,vk=.slice a K.length k:=⟨_,_,(a0k G2.sb.kp).1⟩;subst hvk;have f17:=G2.sb.nb.2 4017;have hB:B<=W2.heap.size:=by have:=G2.sb.lo.1;omega
 have OW:=uU G2.sb.kp;have nsb:¬w.heap.size=b:=by omega
 have nbs:¬b=w.heap.size:=by omega
 go_wp2_with fail;rw[<-hW2];have NK:=uU (show ∀q,(Value.slice avk K.length kvk).ownBlock=some q->q<w.heap.size from λq hq=>(H.sb.kp.lt q hq).2);have GSB:=uU (show ∀q,(Value.slice avk K.length kvk).ownBlock=some q->q≠b from λq hq e=>by have h1:=G2.sp.k q hq;have h2:=G2.sp.b;rw[e] at h1;omega);clear hW2 m1 p0 p5 fc r0 hbc2;have OD:=uU (show ∀o,(W2.drew.alloc o).ownsRow B 126 1 (.slice avk K.length kvk) K.length (K.map (ndp bn))/\((W2.alloc o).drew).ownsRow B 126 1 (.slice avk K.length kvk) K.length (K.map (ndp bn)) from λo=>⟨uN OW (λq hq=>((Ext.refl W2).drew.alloc o).block q (OW.lt q hq).2),uN OW (λq hq=>((Ext.refl W2).alloc o).drew.block q (OW.lt q hq).2)⟩);go_region_law (refine step_append_lies _ rfl _ _ 130 rfl B 126 i0 (.pointer none) 1 8 Tryz.underlying130 hi0 hy0 hy1 hy2 rfl (by decide) (.slice avk K.length kvk) K.length (K.map (ndp bn)) (by first | rfl | simp [Act.eval,Act.put]) (by first | exact(OD _).1 | exact(OD _).2 | exact OW.alloc _) _ 1 1 [ndp bn i] (by first | rfl | simp [Act.eval,Act.put];rfl) rfl (by intro j u hj;match j,hj with | 0,hj=>simp at hj;subst hj;simp [Addr.add,go_sem]) (by intro u hu;simp at hu;subst hu;rfl) (by decide) (by unfold maxLen;omega) (by omega) (by simp;omega) _ rfl ?_;intro g cap w5 hown hgrow hat hglt;have xb:=Ext.trans ((Ext.refl W2).alloc (.cells #[ndp bn i] 126)) ((Ext.refl (W2.alloc (.cells #[ndp bn i] 126))).drew);have R:=uU ((G2.ext xb).push hgrow hown (by simpa using hat));have eb:w5.heap[b]?=W2.heap[b]?:=(hgrow.block b (Nat.lt_of_lt_of_le hbW xb.size) (λe=>uH GSB b e.symm rfl)).trans (xb.block b hbW);have es:w5.heap[w.heap.size]?=W2.heap[w.heap.size]?:=(hgrow.block w.heap.size (Nat.lt_of_lt_of_le hs2 xb.size) (λe=>Nat.lt_irrefl _ (NK _ e.symm))).trans (xb.block w.heap.size hs2);have t0:=(World.cell?_of_block (a:=⟨w.heap.size,0,none⟩) es).trans s0;have e17:=(World.cell?_of_block (a:=⟨b,4017,none⟩) eb).trans k17;have g17:=(World.frozen?_of_block (a:=⟨b,4017,none⟩) eb).trans f17;have hb5:b<w5.heap.size:=uL e17;have hs5:w.heap.size<w5.heap.size:=uL t0;have X5:=uU (show Ext a (w5.setCell ⟨b,4017,none⟩ (.slice (some ⟨g,0,none⟩) (K.length+1) cap)) from(a2s (X2.trans xb) ((OD _).2) ha hgrow).setCell (p:=⟨b,4017,none⟩) (Nat.le_trans ha lo) _);clear hown hgrow hat xb eb es)
 all_goals
  have c6:(w5.setCell ⟨b,4017,none⟩ (.slice (some ⟨g,0,none⟩) (K.length+1) cap)).cell? ⟨b,6,none⟩=some (iv i):=by have:=R.sb.bx.2.2.2.2.2.2.1;exact this.trans (by rw[uH HI])
  have f6:=R.sb.nb.2 6;have t1:(w5.setCell ⟨b,4017,none⟩ (.slice (some ⟨g,0,none⟩) (K.length+1) cap)).cell? ⟨w.heap.size,0,none⟩=some (.pointer (some ⟨b,0,none⟩)):=by rw[uC _ (.inl nbs)];exact t0
  have FN:=uU (R.I ((i:Int)+1));have XN:=uU (X5.setCell (p:=⟨b,6,none⟩) (show a.heap.size<=b by omega) (iv ((i:Int)+1)));go_wp2_with fail;go_ret;exact⟨by rw[uH EP];rfl,by rw[uH E];exact⟨_,_,FN⟩,XN⟩
theorem b9q[Inhabited uQ](h:SAt B w b x ar kr v4 v8 br cB cO bn pb pa pk kn hd vf F vk K role)(s:Snd x)(hp:x.E=3)(i:Nat)(hi:x.I=(i:Int))(hin:i<x.A.length)(hs:whB (x.c i)=true)(ho:Ho F)(hl:F.length<=1000000000)(a:World)(ha:a.heap.size<=B)(hx:Ext a w):
  Calls Tryz.prog 331 #[.agg #[.pointer (some ⟨b,0,none⟩)]] w λe w'=>e=.returned (zK (dQ x).E b)/\Hid (∃pa' pk' vf' F' role',SAt B w' b (dQ x) ar kr v4 v8 br cB cO bn pb pa' pk' kn hd vf' F' vk K role'/\Ho F'/\F'.Perm ((i:Int)::F))/\Ext a w':=by
 have ei:x.I.toNat=i:=by omega
 have E:=uU (show dQ x={ x with K:=x.K-(1+(x.c i).F.length),A:=x.A.set i Cl0,I:=(i:Int)+1 } by
  unfold dQ;rw[if_neg (by omega),ei,if_pos hs,hi])
 have EP:=uU (show(dQ x).E=3 by rw[uH E];exact hp)
 have V:=uU (show IntKind.i64.wrap (x.K-(1+((x.c i).F.length:Int)))=x.K-(1+((x.c i).F.length:Int)) by
  have hlp:=s.ok.p200 i hin;have hu1:x.K<=4000:=by have:=s.r3.2;have:=s.r1.M;omega
  have hu0:0<=x.K:=by have:=s.r3.1;omega
  rw[IntKind.wrap_i64];omega)
 have LP:=uU (s.ok.p200 i hin);have H:=uU h;have n8:=s.ok.n8;have XA:=(Ext.refl w).alloc (.cells #[.pointer (some ⟨b,0,none⟩)] 235);have c6:=h.sb.bx.2.2.2.2.2.2.1;rw[hi] at c6;have QA:=uU (a1q b x.A.length kn bn i _ (XA.keep c6) (XA.keep h.sb.n13) hin);have XA2:=uU XA;have hbw:b<w.heap.size:=h.sb.nb.1;have lo:=h.sb.lo.1;have hn:0<x.A.length:=by omega
 have HI:=uU hi;have WH:=uU hs;have HBC:=uU (h.rw.nc i hin);have FOW:=uU (show ∀q,vf.ownBlock=some q->q<w.heap.size from λq hq=>(h.sb.fr.own.lt q hq).2);have HO:=uU (And.intro ho hl);clear h hp XA hi c6 ei hs s ho hl;go_enter Tryz.func331,Tryz.ntmps331;go_wp2_with fail;refine QA.mono ?_;rintro e w1 ⟨rfl,x1⟩;have r0:w1.cell? ⟨w.heap.size,0,none⟩=some (.pointer (some ⟨b,0,none⟩)):=x1.keep (by simp [go_sem]);have X1:=uU (XA2.trans x1);have H1:=uU (H.ext X1);have m1:=(H1.sb.nd i hin).2;have QS:=uU (a5o (x.c i) bn i (cB i) (cO i) w1 m1 (H1.rw.s i hin));rw[uH WH] at QS;clear x1 XA2 QA;go_wp2_with fail;refine QS.mono ?_;rintro e w2 ⟨rfl,hw2⟩;subst hw2;have c1:=H1.sb.bx.2.1;have f1:=H1.sb.nb.2 1;have hb1:b<w2.heap.size:=uL c1;have hs2:w.heap.size<w2.heap.size:=uL r0;have nsb:¬w.heap.size=b:=by omega
 have nbs:¬b=w.heap.size:=by omega
 clear m1 QS;go_wp2_with fail;go_region_with (go_at_call 119;refine(b5c (x.c i) bn (i*2) (cB i) (cO i) (pa i) (pk i) _ (H1.ext (Ext.refl w2).drew |>.sb.nd i hin).2 (H1.ext (Ext.refl w2).drew |>.rw.p7 i hin) (by have:=uH LP;omega)).mono ?_;rintro e w3 ⟨rfl,hw3⟩;subst hw3)
 all_goals
  rw[uH V];obtain⟨W3,hW3⟩:∃W,W=(w2.setCell ⟨b,1,none⟩ (iv (x.K-(1+((x.c i).F.length:Int))))).drew:=⟨_,rfl⟩;have H3:=uU (show SAt B W3 b { x with K:=x.K-(1+((x.c i).F.length:Int)) } ar kr v4 v8 br cB cO bn pb pa pk kn hd vf F vk K role by rw[hW3];exact(H1.usedTo _).ext (Ext.refl _).drew);have X3:=uU (show Ext a W3 by rw[hW3];exact((hx.trans X1).setCell (p:=⟨b,1,none⟩) (show a.heap.size<=b by omega) _).drew);have r3:W3.cell? ⟨w.heap.size,0,none⟩=some (.pointer (some ⟨b,0,none⟩)):=by rw[hW3,a0y,uC _ (.inl nbs)];exact r0
  rw[<-hW3];clear hW3 c1 f1 r0 hs2 hb1;have hs3:w.heap.size<W3.heap.size:=uL r3;go_wp2_with fail;refine(a9x H3 i hin HO.1 HO.2 a ha X3).mono ?_;rintro e w4 ⟨rfl,g4,x4⟩;obtain⟨pa',pk',vf',F',role',H4,ho4,pm4⟩:=g4.1;have r4:w4.cell? ⟨w.heap.size,0,none⟩=some (.pointer (some ⟨b,0,none⟩)):=(World.cell?_of_block (a:=⟨w.heap.size,0,none⟩) (g4.2 w.heap.size hs3 nsb (by have:=HBC.1.1;omega) (λe=>Nat.lt_irrefl _ (FOW _ e)))).trans r3;have c6:w4.cell? ⟨b,6,none⟩=some (iv i):=by have:=H4.sb.bx.2.2.2.2.2.2.1;exact this.trans (by rw[uH HI])
  have f6:=H4.sb.nb.2 6;have hb4:b<w4.heap.size:=uL c6;have hs4:w.heap.size<w4.heap.size:=uL r4;have FN:=uU (And.intro (H4.I ((i:Int)+1)) (And.intro ho4 pm4));have XN:=uU (x4.setCell (p:=⟨b,6,none⟩) (show a.heap.size<=b by omega) (iv ((i:Int)+1)));clear g4 H4 r3 hs3 ho4 pm4 x4;go_wp2_with fail;go_ret;exact⟨by rw[uH EP];rfl,by rw[uH E];exact⟨_,_,_,_,_,FN⟩,XN⟩
end Go.Proofs.YtddkhnclmeikfaaGreat
