import Derived.Test.YtddkhnclmeikfaaGreatGs1
import Derived.Test.YtddkhnclmeikfaaGreatQa
import Derived.Test.YtddkhnclmeikfaaGreatRc5
set_option maxRecDepth 100000
set_option maxHeartbeats 1000000
namespace Go.Proofs.YtddkhnclmeikfaaGreat
open Go.RowKit
attribute [local go_sem ↓] Go.wp_at_zero Go.wp_at_succ
theorem infoNodeS:(Tryz.prog.info? 126).map (fun i=>(i.zero,i.size,i.bytes))=some (some (.pointer none),1,8):=by kernel_rfl
theorem SAt.white[Inhabited ProtD]{B:Nat}{w:World}{b:Nat}{x:Hp}{ar:Option Addr}{kr:Nat}{v4 v8:Value}{br bn:Nat}{cB cO:Nat→Nat}{pb:Nat→Nat}{pa:Nat→Option Addr}{pk:Nat→Nat}{kn hd:Nat}{vf:Value}{F:List Int}{vk:Value}{K:List Nat}{role:Nat→Nat}(h:SAt B w b x ar kr v4 v8 br cB cO bn pb pa pk kn hd vf F vk K role)(i:Nat)(hi:i<x.cells.length):SAt B (w.setCell ⟨cB i,cO i+5,none⟩ (iv 0)) b { x with cells:=x.cells.set i (whiteC (x.c i)) } ar kr v4 v8 br cB cO bn pb pa pk kn hd vf F vk K role:=by
 have hn:0<x.cells.length:=by omega
 refine h.setc hi rfl (Only.setCell (S:=fun q=>q=cB i) (Only.refl _ w) (p:=⟨cB i,cO i+5,none⟩) rfl _) ?_ (fun k hk=>cell_other _ (.inr (by omega))) ((h.rw.nc i hi).1.set _ _);obtain⟨a0,a1,a2,a3,a4,a5,a6⟩:=h.rw.s i hi;refine⟨?_,?_,?_,?_,?_,World.cell?_setCell_same _ _ _ a5,?_⟩
 ·rw[cell_other _ (.inr (by omega))];exact a0
 ·rw[cell_other _ (.inr (by omega))];exact a1
 ·rw[cell_other _ (.inr (by omega))];exact a2
 ·rw[cell_other _ (.inr (by omega))];exact a3
 ·rw[cell_other _ (.inr (by omega))];exact a4
 ·rw[cell_other _ (.inr (by omega))];exact a6
theorem sweep_keep[Inhabited ProtD]{B:Nat}{w:World}{b:Nat}{x:Hp}{ar:Option Addr}{kr:Nat}{v4 v8:Value}{br bn:Nat}{cB cO:Nat→Nat}{pb:Nat→Nat}{pa:Nat→Option Addr}{pk:Nat→Nat}{kn hd:Nat}{vf:Value}{F:List Int}{vk:Value}{K:List Nat}{role:Nat→Nat}(h:SAt B w b x ar kr v4 v8 br cB cO bn pb pa pk kn hd vf F vk K role)(n8:x.cells.length≤8000)(hp:x.phase=3)(i:Nat)(hi:x.hand=(i:Int))(hin:i<x.cells.length)(hs:((x.c i).st == 1)=true)(hc:((x.c i).color == 0)=false)(hK:K.length≤8000)(a:World)(ha:a.heap.size≤B)(hx:Ext a w):
  Calls Tryz.prog 331 #[.agg #[.pointer (some ⟨b,0,none⟩)]] w fun e w'=>e=.returned (nowV (unit3 x).phase b)∧Hid (∃vk' role',SAt B w' b (unit3 x) ar kr v4 v8 br cB cO bn pb pa pk kn hd vf F vk' (K++[i]) role')∧Ext a w':=by
 have ei:x.hand.toNat=i:=by omega
 have E:=hide (show unit3 x={ x with cells:=x.cells.set i (whiteC (x.c i)),hand:=(i:Int)+1 } by
  unfold unit3;rw[if_neg (by omega),ei,if_neg (by simp [whB,hc]),hi])
 have EP:=hide (show(unit3 x).phase=3 by rw[unhide E];exact hp);have H:=hide h;obtain⟨i0,hi0,hy0,hy1,hy2⟩:=info_parts infoNodeS;have XA:=(Ext.refl w).alloc (.cells #[.pointer (some ⟨b,0,none⟩)] 235);have c6:=h.sb.bx.2.2.2.2.2.2.1;rw[hi] at c6;have QA:=hide (atHand_some b x.cells.length kn bn i _ (XA.keep c6) (XA.keep h.sb.n13) hin);have XA2:=hide XA;have hbw:b<w.heap.size:=h.sb.nb.1;have lo:=h.sb.lo.1;have hn:0<x.cells.length:=by omega
 have HI:=hide hi;have WH:=hide (show whB (x.c i)=false by simp [whB,hc]);have HBC:=hide (h.rw.nc i hin);clear h hp XA hi c6 ei hc;go_enter Tryz.func331,Tryz.ntmps331;go_wp2_with fail;refine(unhide QA).mono ?_;rintro e w1 ⟨rfl,x1⟩;have r0:w1.cell? ⟨w.heap.size,0,none⟩=some (.pointer (some ⟨b,0,none⟩)):=x1.keep (by simp [go_sem]);have X1:=hide ((unhide XA2).trans x1);have H1:=hide ((unhide H).ext (unhide X1));have m1:=((unhide H1).sb.nd i hin).2;have p0:=((unhide H1).rw.s i hin).1;have p5:=((unhide H1).rw.s i hin).2.2.2.2.2.1;have fc:=((unhide H1).rw.nc i hin).1.2 (cO i+5);have QS:=hide (swhite_any (x.c i) bn i (cB i) (cO i) w1 m1 ((unhide H1).rw.s i hin));rw[unhide WH] at QS;clear x1 XA2 QA;go_wp2_with fail;refine(unhide QS).mono ?_;rintro e w2 ⟨rfl,hw2⟩;subst hw2;have G2:=hide ((unhide H1).white i hin);obtain⟨W2,hW2⟩:∃W,W=w2.setCell ⟨cB i,cO i+5,none⟩ (iv 0):=⟨_,rfl⟩;rw[←hW2] at G2;have X2:=hide (show Ext a W2 by rw[hW2];exact(hx.trans (unhide X1)).setCell (p:=⟨cB i,cO i+5,none⟩) (Nat.le_trans ha (unhide HBC).2) _)
 have s0:W2.cell? ⟨w.heap.size,0,none⟩=some (.pointer (some ⟨b,0,none⟩)):=by
  rw[hW2,cell_other _ (.inl (by have:=(unhide HBC).1.1;omega))];exact r0
 have k17:=(unhide G2).sb.k0;have hs2:w.heap.size<W2.heap.size:=cell_lt s0;have hbW:b<W2.heap.size:=cell_lt k17;have hbc2:cB i<w2.heap.size:=cell_lt p5;obtain⟨avk,kvk,hvk⟩:∃a k,vk=.slice a K.length k:=⟨_,_,(own_form (unhide G2).sb.kp).1⟩;subst hvk;have f17:=(unhide G2).sb.nb.2 4017;have hB:B≤W2.heap.size:=by have:=(unhide G2).sb.lo.1;omega
 have OW:=hide (unhide G2).sb.kp;have nsb:¬w.heap.size=b:=by omega
 have nbs:¬b=w.heap.size:=by omega
 go_wp2_with fail;rw[←hW2];have NK:=hide (show ∀q,(Value.slice avk K.length kvk).ownBlock=some q→q<w.heap.size from fun q hq=>((unhide H).sb.kp.lt q hq).2);have GSB:=hide (show ∀q,(Value.slice avk K.length kvk).ownBlock=some q→q≠b from fun q hq e=>by have h1:=(unhide G2).sp.k q hq;have h2:=(unhide G2).sp.b;rw[e] at h1;omega);clear hW2 m1 p0 p5 fc r0 hbc2;have OD:=hide (show ∀o,(W2.drew.alloc o).ownsRow B 126 1 (.slice avk K.length kvk) K.length (K.map (ndp bn))∧((W2.alloc o).drew).ownsRow B 126 1 (.slice avk K.length kvk) K.length (K.map (ndp bn)) from fun o=>⟨ownsRow_of_block (unhide OW) (fun q hq=>((Ext.refl W2).drew.alloc o).block q ((unhide OW).lt q hq).2),ownsRow_of_block (unhide OW) (fun q hq=>((Ext.refl W2).alloc o).drew.block q ((unhide OW).lt q hq).2)⟩);go_region_law (refine step_append_lies _ rfl _ _ 130 rfl B 126 i0 (.pointer none) 1 8 Tryz.underlying130 hi0 hy0 hy1 hy2 rfl (by decide) (.slice avk K.length kvk) K.length (K.map (ndp bn)) (by first | rfl | simp [Act.eval,Act.put]) (by first | exact(unhide OD _).1 | exact(unhide OD _).2 | exact(unhide OW).alloc _) _ 1 1 [ndp bn i] (by first | rfl | simp [Act.eval,Act.put];rfl) rfl (by intro j u hj;match j,hj with | 0,hj=>simp at hj;subst hj;simp [Addr.add,go_sem]) (by intro u hu;simp at hu;subst hu;rfl) (by decide) (by unfold maxLen;omega) (by omega) (by simp;omega) _ rfl ?_;intro g cap w5 hown hgrow hat hglt;have xb:=Ext.trans ((Ext.refl W2).alloc (.cells #[ndp bn i] 126)) ((Ext.refl (W2.alloc (.cells #[ndp bn i] 126))).drew);have R:=hide (((unhide G2).ext xb).push hgrow hown (by simpa using hat));have eb:w5.heap[b]?=W2.heap[b]?:=(hgrow.block b (Nat.lt_of_lt_of_le hbW xb.size) (fun e=>unhide GSB b e.symm rfl)).trans (xb.block b hbW);have es:w5.heap[w.heap.size]?=W2.heap[w.heap.size]?:=(hgrow.block w.heap.size (Nat.lt_of_lt_of_le hs2 xb.size) (fun e=>Nat.lt_irrefl _ (unhide NK _ e.symm))).trans (xb.block w.heap.size hs2);have t0:=(World.cell?_of_block (a:=⟨w.heap.size,0,none⟩) es).trans s0;have e17:=(World.cell?_of_block (a:=⟨b,4017,none⟩) eb).trans k17;have g17:=(World.frozen?_of_block (a:=⟨b,4017,none⟩) eb).trans f17;have hb5:b<w5.heap.size:=cell_lt e17;have hs5:w.heap.size<w5.heap.size:=cell_lt t0;have X5:=hide (show Ext a (w5.setCell ⟨b,4017,none⟩ (.slice (some ⟨g,0,none⟩) (K.length+1) cap)) from(grown_ext ((unhide X2).trans xb) ((unhide OD _).2) ha hgrow).setCell (p:=⟨b,4017,none⟩) (Nat.le_trans ha lo) _);clear hown hgrow hat xb eb es)
 all_goals
  have c6:(w5.setCell ⟨b,4017,none⟩ (.slice (some ⟨g,0,none⟩) (K.length+1) cap)).cell? ⟨b,6,none⟩=some (iv i):=by have:=(unhide R).sb.bx.2.2.2.2.2.2.1;exact this.trans (by rw[unhide HI])
  have f6:=(unhide R).sb.nb.2 6;have t1:(w5.setCell ⟨b,4017,none⟩ (.slice (some ⟨g,0,none⟩) (K.length+1) cap)).cell? ⟨w.heap.size,0,none⟩=some (.pointer (some ⟨b,0,none⟩)):=by rw[cell_other _ (.inl nbs)];exact t0
  have FN:=hide ((unhide R).hand ((i:Int)+1));have XN:=hide ((unhide X5).setCell (p:=⟨b,6,none⟩) (show a.heap.size≤b by omega) (iv ((i:Int)+1)));go_wp2_with fail;go_ret;exact⟨by rw[unhide EP];rfl,by rw[unhide E];exact⟨_,_,unhide FN⟩,unhide XN⟩
theorem sweep_white[Inhabited ProtD]{B:Nat}{w:World}{b:Nat}{x:Hp}{ar:Option Addr}{kr:Nat}{v4 v8:Value}{br bn:Nat}{cB cO:Nat→Nat}{pb:Nat→Nat}{pa:Nat→Option Addr}{pk:Nat→Nat}{kn hd:Nat}{vf:Value}{F:List Int}{vk:Value}{K:List Nat}{role:Nat→Nat}(h:SAt B w b x ar kr v4 v8 br cB cO bn pb pa pk kn hd vf F vk K role)(s:Snd x)(hp:x.phase=3)(i:Nat)(hi:x.hand=(i:Int))(hin:i<x.cells.length)(hs:whB (x.c i)=true)(ho:Ho F)(hl:F.length≤1000000000)(a:World)(ha:a.heap.size≤B)(hx:Ext a w):
  Calls Tryz.prog 331 #[.agg #[.pointer (some ⟨b,0,none⟩)]] w fun e w'=>e=.returned (nowV (unit3 x).phase b)∧Hid (∃pa' pk' vf' F' role',SAt B w' b (unit3 x) ar kr v4 v8 br cB cO bn pb pa' pk' kn hd vf' F' vk K role'∧Ho F'∧F'.Perm ((i:Int)::F))∧Ext a w':=by
 have ei:x.hand.toNat=i:=by omega
 have E:=hide (show unit3 x={ x with used:=x.used-(1+(x.c i).prs.length),cells:=x.cells.set i Cl0,hand:=(i:Int)+1 } by
  unfold unit3;rw[if_neg (by omega),ei,if_pos hs,hi])
 have EP:=hide (show(unit3 x).phase=3 by rw[unhide E];exact hp)
 have V:=hide (show IntKind.i64.wrap (x.used-(1+((x.c i).prs.length:Int)))=x.used-(1+((x.c i).prs.length:Int)) by
  have hlp:=s.ok.p200 i hin;have hu1:x.used≤4000:=by have:=s.r3.2;have:=s.r1.room;omega
  have hu0:0≤x.used:=by have:=s.r3.1;omega
  rw[IntKind.wrap_i64];omega)
 have LP:=hide (s.ok.p200 i hin);have H:=hide h;have n8:=s.ok.n8;have XA:=(Ext.refl w).alloc (.cells #[.pointer (some ⟨b,0,none⟩)] 235);have c6:=h.sb.bx.2.2.2.2.2.2.1;rw[hi] at c6;have QA:=hide (atHand_some b x.cells.length kn bn i _ (XA.keep c6) (XA.keep h.sb.n13) hin);have XA2:=hide XA;have hbw:b<w.heap.size:=h.sb.nb.1;have lo:=h.sb.lo.1;have hn:0<x.cells.length:=by omega
 have HI:=hide hi;have WH:=hide hs;have HBC:=hide (h.rw.nc i hin);have FOW:=hide (show ∀q,vf.ownBlock=some q→q<w.heap.size from fun q hq=>(h.sb.fr.own.lt q hq).2);have HO:=hide (And.intro ho hl);clear h hp XA hi c6 ei hs s ho hl;go_enter Tryz.func331,Tryz.ntmps331;go_wp2_with fail;refine(unhide QA).mono ?_;rintro e w1 ⟨rfl,x1⟩;have r0:w1.cell? ⟨w.heap.size,0,none⟩=some (.pointer (some ⟨b,0,none⟩)):=x1.keep (by simp [go_sem]);have X1:=hide ((unhide XA2).trans x1);have H1:=hide ((unhide H).ext (unhide X1));have m1:=((unhide H1).sb.nd i hin).2;have QS:=hide (swhite_any (x.c i) bn i (cB i) (cO i) w1 m1 ((unhide H1).rw.s i hin));rw[unhide WH] at QS;clear x1 XA2 QA;go_wp2_with fail;refine(unhide QS).mono ?_;rintro e w2 ⟨rfl,hw2⟩;subst hw2;have c1:=(unhide H1).sb.bx.2.1;have f1:=(unhide H1).sb.nb.2 1;have hb1:b<w2.heap.size:=cell_lt c1;have hs2:w.heap.size<w2.heap.size:=cell_lt r0;have nsb:¬w.heap.size=b:=by omega
 have nbs:¬b=w.heap.size:=by omega
 clear m1 QS;go_wp2_with fail;go_region_with (go_at_call 119;refine(units_any (x.c i) bn (i*2) (cB i) (cO i) (pa i) (pk i) _ ((unhide H1).ext (Ext.refl w2).drew |>.sb.nd i hin).2 ((unhide H1).ext (Ext.refl w2).drew |>.rw.p7 i hin) (by have:=unhide LP;omega)).mono ?_;rintro e w3 ⟨rfl,hw3⟩;subst hw3)
 all_goals
  rw[unhide V];obtain⟨W3,hW3⟩:∃W,W=(w2.setCell ⟨b,1,none⟩ (iv (x.used-(1+((x.c i).prs.length:Int))))).drew:=⟨_,rfl⟩;have H3:=hide (show SAt B W3 b { x with used:=x.used-(1+((x.c i).prs.length:Int)) } ar kr v4 v8 br cB cO bn pb pa pk kn hd vf F vk K role by rw[hW3];exact((unhide H1).usedTo _).ext (Ext.refl _).drew);have X3:=hide (show Ext a W3 by rw[hW3];exact((hx.trans (unhide X1)).setCell (p:=⟨b,1,none⟩) (show a.heap.size≤b by omega) _).drew);have r3:W3.cell? ⟨w.heap.size,0,none⟩=some (.pointer (some ⟨b,0,none⟩)):=by rw[hW3,drew_cell,cell_other _ (.inl nbs)];exact r0
  rw[←hW3];clear hW3 c1 f1 r0 hs2 hb1;have hs3:w.heap.size<W3.heap.size:=cell_lt r3;go_wp2_with fail;refine(giveBack_any (unhide H3) i hin (unhide HO).1 (unhide HO).2 a ha (unhide X3)).mono ?_;rintro e w4 ⟨rfl,g4,x4⟩;obtain⟨pa',pk',vf',F',role',H4,ho4,pm4⟩:=g4.1;have r4:w4.cell? ⟨w.heap.size,0,none⟩=some (.pointer (some ⟨b,0,none⟩)):=(World.cell?_of_block (a:=⟨w.heap.size,0,none⟩) (g4.2 w.heap.size hs3 nsb (by have:=(unhide HBC).1.1;omega) (fun e=>Nat.lt_irrefl _ (unhide FOW _ e)))).trans r3;have c6:w4.cell? ⟨b,6,none⟩=some (iv i):=by have:=H4.sb.bx.2.2.2.2.2.2.1;exact this.trans (by rw[unhide HI])
  have f6:=H4.sb.nb.2 6;have hb4:b<w4.heap.size:=cell_lt c6;have hs4:w.heap.size<w4.heap.size:=cell_lt r4;have FN:=hide (And.intro (H4.hand ((i:Int)+1)) (And.intro ho4 pm4));have XN:=hide (x4.setCell (p:=⟨b,6,none⟩) (show a.heap.size≤b by omega) (iv ((i:Int)+1)));clear g4 H4 r3 hs3 ho4 pm4 x4;go_wp2_with fail;go_ret;exact⟨by rw[unhide EP];rfl,by rw[unhide E];exact⟨_,_,_,_,_,unhide FN⟩,unhide XN⟩
theorem GAt.hat[Inhabited ProtD]{B:Nat}{w:World}{g:Nat}{x:Hp}{ar:Option Addr}{kr:Nat}{ac:Option Addr}{kc:Nat}{vg:Value}{br bc:Nat}{pb:Nat→Nat}{pa:Nat→Option Addr}{pk:Nat→Nat}{role:Nat→Nat}(h:GAt B w g x ar kr ac kc vg br bc pb pa pk role)(s:Snd x):∃ag kg,HAt w g x ar kr ac kc ag kg:=by
 obtain⟨ag,kg,hvg⟩:=h.gr.form;subst hvg;have n8:=s.ok.n8;have ng:=s.r1.gray;obtain⟨⟨ar',kr',e1,_,hr⟩,⟨ac',kc',e2,_,hc⟩,⟨ag',kg',e3,_,hg⟩⟩:=h.rd (by rw[s.r1.regs];omega) (by omega) (fun q hq=>s.ok.p200 q hq) (by omega)
 injection e1 with e1;injection e2 with e2;injection e3 with e3
 subst e1 e2 e3;obtain⟨b0,b1,b2,b3,b4,b5,b6,b7,b8,b9,b10,b11,b12⟩:=h.bx;exact⟨ag,kg,b0,b1,b2,b3,b4,b5,b6,b7,b8,b9,b10,b11,b12,by rw[s.r1.regs];omega,by omega,by omega,hr,fun i hi=>by obtain⟨b',o,e,q⟩:=hc i hi;rw[Hp.c_eq x i hi] at q;exact⟨b',o,e,q⟩,hg⟩
theorem cutTo_used(x:Hp)(H:Nat→Bool):∀k,(cutTo x H k).used=x.used-goneTo x H k
 | 0=>by simp [cutTo,goneTo]
 | k+1=>by
  have ih:=cutTo_used x H k;unfold cutTo goneTo
  split
  ·show(cutTo x H k).used-goes x H (x.c k) (x.c k).prs=_;rw[ih];omega
  ·exact ih
theorem dueTo_len(x z:Hp)(H:Nat→Bool):∀k,(dueTo x z H k).cells.length=z.cells.length
 | 0=>rfl
 | k+1=>by
  unfold dueTo
  split
  ·simp [dueTo_len x z H k]
  ·exact dueTo_len x z H k
def stNext(x:Hp)(H:Nat→Bool)(k:Nat)(z:Hp):Hp:=
 if H k=true then { z with cells:=z.cells.set k (letC x H (x.c k)),used:=z.used-goes x H (x.c k) (x.c k).prs,sub:=letSub x H k z.sub }
 else if (x.c k).last=1 then { z with cells:=z.cells.set k (dueC (x.c k)) } else z
def stTo(x:Hp)(H:Nat→Bool):Nat→Hp
 | 0=>x
 | k+1=>stNext x H k (stTo x H k)
def RestH(x y:Hp):Prop:=x.room=y.room∧x.born=y.born∧x.regs=y.regs∧x.phase=y.phase∧x.hand=y.hand∧x.gray=y.gray∧x.per=y.per∧x.start=y.start∧x.rounds=y.rounds∧x.forced=y.forced
theorem RestH.refl(x:Hp):RestH x x:=⟨rfl,rfl,rfl,rfl,rfl,rfl,rfl,rfl,rfl,rfl⟩
theorem hp_eq{x y:Hp}(r:RestH x y)(hu:x.used=y.used)(hs:x.sub=y.sub)(hl:x.cells.length=y.cells.length)(hc:∀q,q<x.cells.length→x.c q=y.c q):x=y:=by
 have e:x.cells=y.cells:=List.ext_getElem hl fun i h1 h2=>by rw[Hp.c_eq x i h1,Hp.c_eq y i h2];exact hc i h1
 obtain⟨r1,r2,r3,r4,r5,r6,r7,r8,r9,r10⟩:=r;cases x;cases y;simp only at *;subst r1 r2 r3 r4 r5 r6 r7 r8 r9 r10 hu hs e;rfl
theorem stTo_rest(x:Hp)(H:Nat→Bool):∀k,RestH (stTo x H k) x
 | 0=>RestH.refl x
 | k+1=>by
  have ih:=stTo_rest x H k;show RestH (stNext x H k (stTo x H k)) x;unfold stNext
  split
  ·exact ih
  ·split
   ·exact ih
   ·exact ih
theorem cutTo_rest(x:Hp)(H:Nat→Bool):∀k,RestH (cutTo x H k) x
 | 0=>RestH.refl x
 | k+1=>by
  have ih:=cutTo_rest x H k;unfold cutTo
  split
  ·exact ih
  ·exact ih
theorem dueTo_rest(x z:Hp)(H:Nat→Bool):∀k,RestH (dueTo x z H k) z∧(dueTo x z H k).used=z.used∧(dueTo x z H k).sub=z.sub
 | 0=>⟨RestH.refl z,rfl,rfl⟩
 | k+1=>by
  have ih:=dueTo_rest x z H k;unfold dueTo
  split
  ·exact ih
  ·exact ih
theorem stTo_len(x:Hp)(H:Nat→Bool):∀k,(stTo x H k).cells.length=x.cells.length
 | 0=>rfl
 | k+1=>by
  have ih:=stTo_len x H k;show(stNext x H k (stTo x H k)).cells.length=_;unfold stNext
  split
  ·simpa using ih
  ·split
   ·simpa using ih
   ·exact ih
theorem stTo_cut(x:Hp)(H:Nat→Bool):∀k,(stTo x H k).used=(cutTo x H k).used∧(stTo x H k).sub=(cutTo x H k).sub
 | 0=>⟨rfl,rfl⟩
 | k+1=>by
  have ih:=stTo_cut x H k;show(stNext x H k (stTo x H k)).used=_∧(stNext x H k (stTo x H k)).sub=_;unfold stNext cutTo;by_cases h:H k=true
  ·rw[if_pos h,if_pos h];exact⟨by show(stTo x H k).used-_=(cutTo x H k).used-_;rw[ih.1],by show letSub x H k (stTo x H k).sub=letSub x H k (cutTo x H k).sub;rw[ih.2]⟩
  ·rw[if_neg h,if_neg h]
   split
   ·exact ih
   ·exact ih
theorem set_c(z:Hp)(u s:Int)(k:Nat)(c:Cl)(hk:k<z.cells.length)(q:Nat):({ z with cells:=z.cells.set k c,used:=u,sub:=s }:Hp).c q=if q=k then c else z.c q:=Hp.c_set z k c hk q
theorem stTo_c(x:Hp)(H:Nat→Bool):∀k,k≤x.cells.length→∀q,(stTo x H k).c q=if q<k then stlC x H q else x.c q
 | 0,_,q=>by rw[if_neg (by omega)];rfl
 | k+1,hk,q=>by
  have ih:=stTo_c x H k (by omega) q;have hl:k<(stTo x H k).cells.length:=by rw[stTo_len];omega
  show(stNext x H k (stTo x H k)).c q=_
  have key:(stNext x H k (stTo x H k)).c q=if q=k then stlC x H k else (stTo x H k).c q:=by
   unfold stNext stlC;by_cases h:H k=true
   ·rw[if_pos h,if_pos h];exact set_c _ _ _ k _ hl q
   ·rw[if_neg h,if_neg h];by_cases h2:(x.c k).last=1
    ·rw[if_pos h2,if_pos h2];exact Hp.c_set _ k _ hl q
    ·rw[if_neg h2,if_neg h2];by_cases e:q=k
     ·subst e;rw[if_pos rfl,ih,if_neg (by omega)]
     ·rw[if_neg e]
  rw[key,ih];by_cases e:q=k
  ·subst e;rw[if_pos rfl,if_pos (by omega)]
  ·rw[if_neg e];by_cases h:q<k
   ·rw[if_pos h,if_pos (by omega)]
   ·rw[if_neg h,if_neg (by omega)]
theorem dueTo_cc(x z:Hp)(H:Nat→Bool):∀k,k≤z.cells.length→∀q,(dueTo x z H k).c q=if q<k∧dueB x H q=true then dueC (x.c q) else z.c q
 | 0,_,q=>by rw[if_neg (by omega)];rfl
 | k+1,hk,q=>by
  have ih:=dueTo_cc x z H k (by omega) q;have hl:k<(dueTo x z H k).cells.length:=by rw[dueTo_len];omega
  unfold dueTo;by_cases h:dueB x H k=true
  ·rw[if_pos h];have:=Hp.c_set (dueTo x z H k) k (dueC (x.c k)) hl q;rw[this,ih];by_cases e:q=k
   ·subst e;rw[if_pos rfl,if_pos ⟨by omega,h⟩]
   ·rw[if_neg e];by_cases h2:q<k∧dueB x H q=true
    ·rw[if_pos h2,if_pos ⟨by omega,h2.2⟩]
    ·rw[if_neg h2,if_neg (fun h3=>h2 ⟨by omega,h3.2⟩)]
  ·rw[if_neg h,ih];by_cases h2:q<k∧dueB x H q=true
   ·rw[if_pos h2,if_pos ⟨by omega,h2.2⟩]
   ·rw[if_neg h2,if_neg (fun h3=>by
     by_cases e:q=k
     ·rw[e] at h3;exact h h3.2
     ·exact h2 ⟨by omega,h3.2⟩)]
theorem stTo_all(x:Hp)(H:Nat→Bool):stTo x H x.cells.length=settleH x H:=by
 have d:=dueTo_rest x (cutTo x H x.cells.length) H x.cells.length;have c:=cutTo_rest x H x.cells.length;have s:=stTo_rest x H x.cells.length;have u:=stTo_cut x H x.cells.length;have hlz:(cutTo x H x.cells.length).cells.length=x.cells.length:=cutTo_len x H _;refine hp_eq ?_ (by rw[u.1];exact d.2.1.symm) (by rw[u.2];exact d.2.2.symm) ?_ fun q hq=>?_
 ·obtain⟨d1,d2,d3,d4,d5,d6,d7,d8,d9,d10⟩:=d.1;obtain⟨c1,c2,c3,c4,c5,c6,c7,c8,c9,c10⟩:=c;obtain⟨s1,s2,s3,s4,s5,s6,s7,s8,s9,s10⟩:=s;exact⟨s1.trans (d1.trans c1).symm,s2.trans (d2.trans c2).symm,s3.trans (d3.trans c3).symm,s4.trans (d4.trans c4).symm,s5.trans (d5.trans c5).symm,s6.trans (d6.trans c6).symm,s7.trans (d7.trans c7).symm,s8.trans (d8.trans c8).symm,s9.trans (d9.trans c9).symm,s10.trans (d10.trans c10).symm⟩
 ·rw[stTo_len];unfold settleH;rw[dueTo_len,cutTo_len]
 ·have hq':q<x.cells.length:=by rw[stTo_len] at hq;exact hq
  rw[stTo_c x H _ (Nat.le_refl _) q,if_pos hq'];unfold settleH;rw[dueTo_cc x _ H _ (by rw[hlz];exact Nat.le_refl _) q,cutTo_c x H _ (Nat.le_refl _) q];unfold stlC dueB;cases h:H q
  ·by_cases h2:(x.c q).last=1
   ·rw[if_neg (by simp),if_pos h2,if_pos ⟨hq',by simp [h2]⟩]
   ·rw[if_neg (by simp),if_neg h2,if_neg (by simp [h2]),if_neg (by simp)]
  ·rw[if_pos rfl,if_neg (by simp),if_pos ⟨hq',rfl⟩]
theorem stTo_st(x:Hp)(H:Nat→Bool)(k:Nat)(hk:k≤x.cells.length)(q:Nat):((stTo x H k).c q).st=(x.c q).st∧((stTo x H k).c q).to=(x.c q).to:=by
 rw[stTo_c x H k hk q]
 split
 ·unfold stlC
  split
  ·exact⟨rfl,rfl⟩
  ·split <;> exact⟨rfl,rfl⟩
 ·exact⟨rfl,rfl⟩
theorem RAt.dropped{w:World}{b bn hd m:Nat}{g:Int}{G:List Int}(h:RAt w b bn hd (g::G))(hm:m=(hd+1) % 4000):
  RAt ((w.setCell ⟨b,4015,none⟩ (iv m)).setCell ⟨b,4016,none⟩ (iv G.length)) b bn m G:=by
 have hl:=h.hl;simp at hl;refine⟨by rw[hm];exact Nat.mod_lt _ (by omega),by omega,?_,?_,fun k hk=>?_,fun j hj=>?_⟩
 ·rw[cell_other _ (.inr (by omega))];exact World.cell?_setCell_same _ _ _ h.r0
 ·have:(w.setCell ⟨b,4015,none⟩ (iv m)).cell? ⟨b,4016,none⟩=some (iv (g::G).length):=by rw[cell_other _ (.inr (by omega))];exact h.r1
  exact World.cell?_setCell_same _ _ _ this
 ·have hk2:(m+k) % 4000<4000:=Nat.mod_lt _ (by omega);rw[cell_other _ (.inr (by omega)),cell_other _ (.inr (by omega))];have:=h.rg (k+1) (by simpa using hk);have e:(hd+(k+1)) % 4000=(m+k) % 4000:=by rw[hm];omega
  rw[e] at this
  simpa using this
 ·obtain⟨v,hv⟩:=h.ro j hj;exact⟨v,by rw[cell_other _ (.inr (by omega)),cell_other _ (.inr (by omega))];exact hv⟩
theorem rdrop_any(b bn hd:Nat)(g:Int)(G:List Int)(w:World)(h:RAt w b bn hd (g::G))(hn:Nf1 b w):
  Calls Tryz.prog 327 #[.pointer (some ⟨b,15,none⟩)] w fun e w'=>e=.returned (.tuple #[])∧Hid (RAt w' b bn ((hd+1) % 4000) G∧Only (fun q=>q=b) w w'∧Nf1 b w'∧∀o,(o<15∨o=4017)→w'.cell? ⟨b,o,none⟩=w.cell? ⟨b,o,none⟩):=by
 have r0:=h.r0;have r1:=h.r1;have hl:=h.hl;have h0:=h.h0;have c0:(((g::G).length:Nat):Int)=(G.length:Int)+1:=by simp
 rw[c0] at r1;have hl2:G.length+1≤4000:=by simpa using hl
 have f0:=hn.2 4015;have f1:=hn.2 4016;obtain⟨m,hm⟩:∃m,m=(hd+1) % 4000:=⟨_,rfl⟩;have hr:((hd:Int)+1).tmod 4000=(m:Int):=by have:=ring_idx (hd+1);rw[←hm] at this;simpa using this
 have FN:=hide (show RAt ((w.setCell ⟨b,4015,none⟩ (iv m)).setCell ⟨b,4016,none⟩ (iv G.length)) b bn m G∧Only (fun q=>q=b) w ((w.setCell ⟨b,4015,none⟩ (iv m)).setCell ⟨b,4016,none⟩ (iv G.length))∧Nf1 b ((w.setCell ⟨b,4015,none⟩ (iv m)).setCell ⟨b,4016,none⟩ (iv G.length))∧∀o,(o<15∨o=4017)→((w.setCell ⟨b,4015,none⟩ (iv m)).setCell ⟨b,4016,none⟩ (iv G.length)).cell? ⟨b,o,none⟩=w.cell? ⟨b,o,none⟩ from
  ⟨h.dropped hm,Only.setCell (S:=fun q=>q=b) (Only.setCell (S:=fun q=>q=b) (Only.refl _ w) (p:=⟨b,4015,none⟩) rfl _) (p:=⟨b,4016,none⟩) rfl _,(hn.set _ _).set _ _,fun o ho=>by rw[cell_other _ (.inr (by omega)),cell_other _ (.inr (by omega))]⟩)
 rw[←hm];clear h c0 hl hm hn;go_enter Tryz.func327,Tryz.ntmps327;go_wp2_with fail
 go_end0
 exact⟨rfl,unhide FN⟩
theorem SAt.rdrop[Inhabited ProtD]{B:Nat}{w w':World}{b:Nat}{x:Hp}{ar:Option Addr}{kr:Nat}{v4 v8:Value}{br bn:Nat}{cB cO:Nat→Nat}{pb:Nat→Nat}{pa:Nat→Option Addr}{pk:Nat→Nat}{kn hd:Nat}{vf:Value}{F:List Int}{vk:Value}{K:List Nat}{role:Nat→Nat}(h:SAt B w b x ar kr v4 v8 br cB cO bn pb pa pk kn hd vf F vk K role){hd':Nat}{G:List Int}(r:RAt w' b bn hd' G∧Only (fun q=>q=b) w w'∧Nf1 b w'∧∀o,(o<15∨o=4017)→w'.cell? ⟨b,o,none⟩=w.cell? ⟨b,o,none⟩):SAt B w' b { x with gray:=G } ar kr v4 v8 br cB cO bn pb pa pk kn hd' vf F vk K role:=h.ring r.1 r.2.1 r.2.2.1 r.2.2.2
theorem settle_used(x:Hp)(H:Nat→Bool):(settleH x H).used=x.used-goneTo x H x.cells.length:=by
 unfold settleH;rw[(dueTo_rest x _ H _).2.1,cutTo_used]
theorem settle_len(x:Hp)(H:Nat→Bool):(settleH x H).cells.length=x.cells.length:=by
 unfold settleH;rw[dueTo_len,cutTo_len]
theorem settle_c(x:Hp)(H:Nat→Bool)(q:Nat)(hq:q<x.cells.length):(settleH x H).c q=stlC x H q:=by
 rw[←stTo_all,stTo_c x H _ (Nat.le_refl _),if_pos hq]
theorem settle_regs(x:Hp)(H:Nat→Bool):(settleH x H).regs=x.regs:=by
 rw[←stTo_all];exact(stTo_rest x H _).2.2.1
theorem settle_tgt(x:Hp)(H:Nat→Bool)(y:Wd):tgt (settleH x H) y=tgt x y:=by
 have h:∀q,((settleH x H).c q).st=(x.c q).st∧((settleH x H).c q).to=(x.c q).to:=fun q=>by
  rw[←stTo_all];exact stTo_st x H _ (Nat.le_refl _) q
 unfold tgt lead2;rw[(h _).1,(h _).2]
theorem dueN_zero{x:Hp}{H:Nat→Bool}:∀{k:Nat},dueN x H k=0→∀i,i<k→dueB x H i=false
 | 0,_,i,hi=>by omega
 | k+1,h,i,hi=>by
  unfold dueN at h;cases e:dueB x H k
  ·rw[e] at h;by_cases e2:i=k
   ·rw[e2];exact e
   ·exact dueN_zero (by simpa using h) i (by omega)
  ·rw[e] at h;simp at h
theorem Held.before{x:Hp}{H:Nat→Bool}(hH:∀i,H i=true↔Held x i)(hlt:∀i,H i=true→i<x.cells.length)(hd:dueN x H x.cells.length=0){i:Nat}(h:Held (settleH x H) i):H i=true:=by
 have hc:∀j,H j=true→(settleH x H).c j=letC x H (x.c j):=fun j hj=>by rw[settle_c x H j (hlt j hj)];unfold stlC;rw[if_pos hj]
 have hp:∀j p,H j=true→p<((settleH x H).c j).prs.length→∃p',p'<(x.c j).prs.length∧((settleH x H).c j).p p=(x.c j).p p':=fun j p hj h=>by
  rw[hc j hj] at h ⊢
  have hm:(letC x H (x.c j)).p p∈(x.c j).prs:=by
   have h1:(letC x H (x.c j)).p p∈(letC x H (x.c j)).prs:=by rw[←Cl.p_eq _ p h];exact List.getElem_mem h
   exact(List.mem_filter.1 h1).1
  obtain⟨p',h2,h3⟩:=List.getElem_of_mem hm;exact⟨p',h2,by rw[←h3,Cl.p_eq _ p' h2]⟩
 have hw:∀j,H j=true→((settleH x H).c j).weak=(x.c j).weak:=fun j hj=>by rw[hc j hj];rfl
 refine h (fun j=>H j=true) (fun k hk e=>?_) (fun i hi e=>?_) (fun j p hj hpp sk e=>?_) (fun j p hj hpp sv hkey e=>?_)
 ·have hr:=settle_regs x H;have hk2:k<x.regs.length:=by rw[←hr];exact hk
  have e3:(settleH x H).regs[k]=x.regs[k]:=by simp [hr]
  rw[settle_tgt,e3,hH];exact Held.reg k hk2 (by rw[←e3];exact e)
 ·rw[settle_len] at hi;rw[settle_c x H i hi] at e;unfold stlC at e
  split at e
  ·assumption
  ·split at e
   ·rename_i h1 h2;have:=dueN_zero hd i hi;simp [dueB,h1,h2] at this
   ·rw[hH];exact Held.due i hi e
 ·obtain⟨p',q1,q2⟩:=hp j p hj hpp;rw[q2] at e ⊢;rw[settle_tgt,hH];exact Held.key j p' ((hH j).1 hj) q1 (by unfold SK at sk ⊢;rw[hw j hj] at sk;exact sk) e
 ·obtain⟨p',q1,q2⟩:=hp j p hj hpp;rw[q2] at e hkey ⊢;rw[settle_tgt] at hkey;rw[settle_tgt,hH];exact Held.val j p' ((hH j).1 hj) q1 (by unfold SV at sv ⊢;rw[hw j hj] at sv;exact sv) (fun k2=>(hH _).1 (hkey k2)) e
def nodeL(cB cO:Nat→Nat)(n:Nat):List Value:=(List.range (n*2)).map (fun j=>if j % 2=0 then iv (j / 2:Nat) else .pointer (some ⟨cB (j / 2),cO (j / 2),none⟩))
theorem nodeL_at(cB cO:Nat→Nat)(n j:Nat)(h:j<n*2):(nodeL cB cO n)[j]?=some (if j % 2=0 then iv (j / 2:Nat) else .pointer (some ⟨cB (j / 2),cO (j / 2),none⟩)):=by
 unfold nodeL;rw[List.getElem?_map,List.getElem?_range h];rfl
theorem SAt.regrow[Inhabited ProtD]{B:Nat}{w:World}{b:Nat}{x:Hp}{ar:Option Addr}{kr:Nat}{v4 v8:Value}{br bn:Nat}{cB cO:Nat→Nat}{pb:Nat→Nat}{pa:Nat→Option Addr}{pk:Nat→Nat}{kn hd:Nat}{vf:Value}{F:List Int}{vk:Value}{role:Nat→Nat}(h:SAt B w b x ar kr v4 v8 br cB cO bn pb pa pk kn hd vf F vk [] role)(hg:x.gray=[])(hB:B≤w.heap.size)(k:Nat)(m:Array Value)(T:TypeId)(hmk:x.cells.length≤k∧m.size=(k-x.cells.length)*2):
  SAt B ((w.drew.alloc (.cells ((nodeL cB cO x.cells.length).toArray++m) T)).setCell ⟨b,13,none⟩ (.slice (some ⟨w.heap.size,0,none⟩) x.cells.length k)) b x ar kr v4 v8 br cB cO w.heap.size pb pa pk k hd vf F vk [] (fun q=>if q=w.heap.size then 1 else role q):=by
 have hb:=h.sb.nb.1;have nb:b≠w.heap.size:=by omega
 have far1:∀q,q<w.heap.size→(w.drew.alloc (.cells ((nodeL cB cO x.cells.length).toArray++m) T)).heap[q]?=w.heap[q]?:=fun q hq=>Below.heap_alloc w.drew _ q hq
 have far:∀q,q<w.heap.size→q≠b→((w.drew.alloc (.cells ((nodeL cB cO x.cells.length).toArray++m) T)).setCell ⟨b,13,none⟩ (.slice (some ⟨w.heap.size,0,none⟩) x.cells.length k)).heap[q]?=w.heap[q]?:=fun q hq hn=>(Below.heap_setCell _ _ _ _ hn).trans (far1 q hq)
 have cb:∀o,o≠13→((w.drew.alloc (.cells ((nodeL cB cO x.cells.length).toArray++m) T)).setCell ⟨b,13,none⟩ (.slice (some ⟨w.heap.size,0,none⟩) x.cells.length k)).cell? ⟨b,o,none⟩=w.cell? ⟨b,o,none⟩:=fun o ho=>(cell_other _ (.inr (fun e=>ho e.symm))).trans (World.cell?_of_block (a:=⟨b,o,none⟩) (far1 b hb))
 have hsz:w.heap.size+1=((w.drew.alloc (.cells ((nodeL cB cO x.cells.length).toArray++m) T)).setCell ⟨b,13,none⟩ (.slice (some ⟨w.heap.size,0,none⟩) x.cells.length k)).heap.size:=by simp [World.setCell]
 have hnew:((w.drew.alloc (.cells ((nodeL cB cO x.cells.length).toArray++m) T)).setCell ⟨b,13,none⟩ (.slice (some ⟨w.heap.size,0,none⟩) x.cells.length k)).heap[w.heap.size]?=some (.cells ((nodeL cB cO x.cells.length).toArray++m) T):=(Below.heap_setCell _ _ _ _ (fun e=>nb e.symm)).trans (heap_alloc_new w.drew _)
 have cn:∀j,j<x.cells.length*2→((w.drew.alloc (.cells ((nodeL cB cO x.cells.length).toArray++m) T)).setCell ⟨b,13,none⟩ (.slice (some ⟨w.heap.size,0,none⟩) x.cells.length k)).cell? ⟨w.heap.size,j,none⟩=some (if j % 2=0 then iv (j / 2:Nat) else .pointer (some ⟨cB (j / 2),cO (j / 2),none⟩)):=fun j hj=>by
  rw[cell_of_row _ w.heap.size j _ _ (0,0) hnew,←nodeL_at cB cO x.cells.length j hj];have hl:j<(nodeL cB cO x.cells.length).toArray.size:=by simp [nodeL];exact hj
  rw[Array.getElem?_append_left hl];simp
 have rb:∀q,role q≠0→q≠b:=fun q hq e=>hq (by rw[e];exact h.sp.b)
 have nfb:Nf1 b ((w.drew.alloc (.cells ((nodeL cB cO x.cells.length).toArray++m) T)).setCell ⟨b,13,none⟩ (.slice (some ⟨w.heap.size,0,none⟩) x.cells.length k)):=(nf1_block h.sb.nb (far1 b hb) (by simp)).set _ _;have c13:(w.drew.alloc (.cells ((nodeL cB cO x.cells.length).toArray++m) T)).cell? ⟨b,13,none⟩=some (.slice (some ⟨bn,0,none⟩) x.cells.length kn):=(World.cell?_of_block (a:=⟨b,13,none⟩) (far1 b hb)).trans h.sb.n13;refine⟨⟨h.sb.bx.of fun o ho=>cb o (by omega),h.sb.ha,World.cell?_setCell_same _ _ _ c13,fun i hi=>⟨?_,?_⟩,⟨(cb 14 (by omega)).trans h.sb.fr.hd,nfb.2 14,ownsRow_of_block h.sb.fr.own (fun q hq=>far q (h.sb.fr.own.lt q hq).2 (rb q (by rw[h.sp.f q hq];omega))),h.sb.fr.apart⟩,?_,(cb 4017 (by omega)).trans h.sb.k0,?_,nfb,⟨h.sb.lo.1,hB,by omega,?_⟩⟩,h.rw.same (by omega) (fun hl=>far br (h.rw.nr hl).1.1 (rb br (by rw[h.sp.r hl];omega))) (fun q hq=>far (cB q) (h.rw.nc q hq).1.1 (rb (cB q) (by rw[h.sp.c q hq];omega))) (fun q hq hl=>far (pb q) (h.rw.pl q hq hl).2.1.1 (rb (pb q) (by rw[h.sp.p q hq hl];omega))),?_,h.pr.of (fun q hq h1=>far q hq (rb q (by rw[h1];omega))) (fun q hq h1=>by(try dsimp only);rw[if_neg (by omega)];exact h1)⟩
 ·have:=cn (i*2) (by omega);rw[if_pos (by omega),show i*2 / 2=i by omega] at this;exact this
 ·have:=cn (i*2+1) (by omega);rw[if_neg (by omega),show(i*2+1) / 2=i by omega] at this;exact this
 ·have r:=h.sb.rg;rw[hg] at r;rw[hg];exact⟨r.h0,r.hl,(cb 4015 (by omega)).trans r.r0,(cb 4016 (by omega)).trans r.r1,fun i hi=>by simp at hi,fun j hj=>let ⟨v,q⟩:=r.ro j hj;⟨v,(cb _ (by omega)).trans q⟩⟩
 ·have:=h.sb.kp;exact ownsRow_of_block (by simpa using this) (fun q hq=>far q (h.sb.kp.lt q hq).2 (rb q (by rw[h.sp.k q hq];omega)))
 ·intro j hj;have hl:j<((nodeL cB cO x.cells.length).toArray++m).size:=by simp [nodeL];omega
  refine⟨⟨((nodeL cB cO x.cells.length).toArray++m)[j],?_⟩,?_⟩
  ·rw[cell_of_row _ w.heap.size j _ _ (0,0) hnew];exact Array.getElem?_eq_getElem hl
  ·rw[World.frozen?_setCell];simp [go_sem]
 ·have ne:∀q,q<w.heap.size→¬q=w.heap.size:=fun q hq=>by omega
  refine⟨?_,if_pos rfl,fun hl=>?_,fun q hq=>?_,fun q hq=>?_,fun q hq=>?_,fun q hq hl=>?_⟩
  ·rw[if_neg nb];exact h.sp.b
  ·rw[if_neg (ne br (h.rw.nr hl).1.1)];exact h.sp.r hl
  ·rw[if_neg (ne (cB q) (h.rw.nc q hq).1.1)];exact h.sp.c q hq
  ·rw[if_neg (ne q (h.sb.fr.own.lt q hq).2)];exact h.sp.f q hq
  ·rw[if_neg (ne q (h.sb.kp.lt q hq).2)];exact h.sp.k q hq
  ·rw[if_neg (ne (pb q) (h.rw.pl q hq hl).2.1.1)];exact h.sp.p q hq hl
theorem grow_any[Inhabited ProtD]{B:Nat}{w:World}{b:Nat}{x:Hp}{ar:Option Addr}{kr:Nat}{v4 v8:Value}{br bn:Nat}{cB cO:Nat→Nat}{pb:Nat→Nat}{pa:Nat→Option Addr}{pk:Nat→Nat}{hd:Nat}{vf:Value}{F:List Int}{vk:Value}{role:Nat→Nat}(h:SAt B w b x ar kr v4 v8 br cB cO bn pb pa pk x.cells.length hd vf F vk [] role)(hg:x.gray=[])(hB:B≤w.heap.size)(m:Nat)(hm:x.cells.length+m≤8000):
  Calls Tryz.prog 140 #[.slice (some ⟨bn,0,none⟩) x.cells.length x.cells.length,.int .i64 m] w fun e w'=>∃bn' kn',e=.returned (.slice (some ⟨bn',0,none⟩) x.cells.length kn')∧Hid (∃role',SAt B (w'.setCell ⟨b,13,none⟩ (.slice (some ⟨bn',0,none⟩) x.cells.length kn')) b x ar kr v4 v8 br cB cO bn' pb pa pk kn' hd vf F vk [] role')∧Hid (w'.cell? ⟨b,13,none⟩=some (.slice (some ⟨bn,0,none⟩) x.cells.length x.cells.length)∧w'.frozen? ⟨b,13,none⟩=false∧Ext w w'∧x.cells.length+m≤kn'):=by
 rcases Nat.eq_zero_or_pos m with e | e
 ·refine(grow_room (some ⟨bn,0,none⟩) x.cells.length m w e).mono ?_;rintro e w' ⟨rfl,rfl⟩;refine⟨bn,x.cells.length,rfl,⟨role,?_⟩,h.sb.n13,h.sb.nb.2 13,Ext.refl _,by omega⟩;rw[set_same h.sb.n13];exact h
 ·refine(grow_new bn x.cells.length m (nodeL cB cO x.cells.length) w hm e (by simp [nodeL]) (fun j v hj=>?_)).mono ?_
  ·have hj2:j<x.cells.length*2:=by have:=(List.getElem?_eq_some_iff.1 hj).1;simpa [nodeL] using this
   rw[nodeL_at cB cO x.cells.length j hj2] at hj;rw[←hj];obtain⟨p0,p1⟩:=h.sb.nd (j / 2) (by omega);by_cases ev:j % 2=0
   ·rw[if_pos ev];rw[show j / 2*2=j by omega] at p0;exact p0
   ·rw[if_neg ev];rw[show j / 2*2+1=j by omega] at p1;exact p1
  ·rintro e w' ⟨k,mm,rfl,hk,hmm,rfl⟩;have xw:Ext w (w.drew.alloc (.cells ((nodeL cB cO x.cells.length).toArray++mm) 124)):=(Ext.refl w).drew.alloc _;exact⟨w.heap.size,k,rfl,⟨_,h.regrow hg hB k mm _ ⟨by omega,hmm⟩⟩,xw.keep h.sb.n13,((bcell xw).2 b 13 h.sb.nb.1).trans (h.sb.nb.2 13),xw,hk⟩
end Go.Proofs.YtddkhnclmeikfaaGreat
