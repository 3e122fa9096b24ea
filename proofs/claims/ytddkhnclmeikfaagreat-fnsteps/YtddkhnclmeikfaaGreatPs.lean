import Derived.Test.YtddkhnclmeikfaaGreatPk
set_option maxRecDepth 100000
set_option maxHeartbeats 1000000
namespace Go.Proofs.YtddkhnclmeikfaaGreat
open Go.RowKit
attribute [local go_sem ↓] Go.wp_at_zero Go.wp_at_succ
variable{x:Hp}{B b kr br bn kn hd:Nat}{w:World}{ar:Option Addr}{v4 v8 vf vk:Value}{cB cO pb pk role:Nat->Nat}{pa:Nat->Option Addr}{F:List Int}{K:List Nat}
theorem c7t[Inhabited uN]{B:Nat}{w:World}{b:Nat}{x:Hp}{ar:Option Addr}{kr:Nat}{v4 v8:Value}{br bn:Nat}{cB cO:Nat->Nat}{pb:Nat->Nat}{pa:Nat->Option Addr}{pk:Nat->Nat}{kn hd:Nat}{vf:Value}{F:List Int}{vk:Value}{K:List Nat}{role:Nat->Nat}(h:SAt B w b x ar kr v4 v8 br cB cO bn pb pa pk kn hd vf F vk K role)(s:Snd x)(hp:x.phase=2)(hg:x.gray=[])(a:World)(ha:a.heap.size<=B)(hx:Ext a w):
  Calls Tryz.prog 330 #[.agg #[.pointer (some ⟨b,0,none⟩)]] w λe w'=>e=.returned (zV (eC x).phase b)/\Hid (SAt B w' b (eC x) ar kr v4 v8 br cB cO bn pb pa pk kn hd vf F vk K role)/\Ext a w':=by
 have EU:=uU (show eC x=if (qK x).gray=[] then dD (qK x) 3 0 else qK x by unfold eC;rw[hg]);have H:=uU h;have S:=uU s;have SH:=uU (c0y s hp);have HP:=uU hp;have XA:=(Ext.refl w).alloc (.cells #[.pointer (some ⟨b,0,none⟩)] 234);have r0:0<x.regs.length:=by have:=s.r1.regs;omega
 have r16:x.regs.length<=16:=by have:=s.r1.regs;omega
 have n8:=s.ok.n8;have c3:=h.sb.bx.2.2.2.1;rw[h.sb.ha r0] at c3;have hbw:b<w.heap.size:=h.sb.nb.1;have lo:=h.sb.lo.1;have HS:=uU (h.ext XA);have XS:=uU (hx.trans XA);have d3:=XA.keep c3;have NWC:=uU (show ∀j,j<x.cells.length->w.heap.size≠cB j from λj hl e=>by have:=(h.rw.nc j hl).1.1;omega);have M0:=uU (show(w.alloc (.cells #[.pointer (some ⟨b,0,none⟩)] 234)).cell? ⟨w.heap.size,0,none⟩=some (.pointer (some ⟨b,0,none⟩)) by simp [go_sem]);clear h hp hg s c3 XA;go_enter Tryz.func330,Tryz.ntmps330;go_wp2_with fail;go_loopw [13] (λi wr=>∃j:Nat,j<=x.regs.length/\i=.int .i64 j/\Hid (SAt B wr b (lkH x j) ar kr v4 v8 br cB cO bn pb pa pk kn hd vf F vk K role)/\Hid (Ext a wr)/\Hid (wr.cell? ⟨w.heap.size,0,none⟩=some (.pointer (some ⟨b,0,none⟩)))) (λi _=>x.regs.length-(intOf i).toNat)
 case atStart=>exact⟨0,Nat.zero_le _,rfl,HS,XS,M0⟩
 case round=>
  clear HS XS d3;obtain⟨j,hj,rfl,hG,hxr,hm0⟩:=hrel;by_cases hlt:j<x.regs.length
  ·have er:(lkH x j).regs=x.regs:=(SH j).regs;obtain⟨e0,e1,e2⟩:=hG.rw.r j (by rw[er];exact hlt);have eq:(lkH x j).regs[j]'(by rw[er];exact hlt)=x.regs[j]:=by simp [er]
   rw[eq] at e0 e1 e2;have hbr:br<wr.heap.size:=uL e0
   have N1:=uU (show Snd (lkH x j)/\qN (lkH x j) x.regs[j]/\uK x.regs[j] (lkH x j).cells.length by
    have hs:=(SH j).s;refine⟨hs,?_,?_⟩
    ·have:=hs.good_reg j (by rw[er];exact hlt);rw[eq] at this;exact this
    ·have:=(hs.r4.1 j (by rw[er];exact hlt)).1;rw[eq] at this;exact this)
   have NX:=uU (b6v x j hlt);have hj0:(0:Int)<=(j:Int):=by omega
   have hj1:(j:Int)<(x.regs.length:Int):=by omega
   have XA:=(Ext.refl wr).alloc (.cells #[iv x.regs[j].k,iv x.regs[j].n,iv x.regs[j].a] 152);have H2:=uU (hG.ext XA);have X2:=uU (hxr.trans XA);have s0:=XA.keep hm0;have BCW:=uU (show ∀j,j<x.cells.length->w.heap.size≠cB j from uH NWC);clear er eq hG hxr hm0 XA;go_wp2_with fail;go_region_with (first | (have _:=LA;go_at_call 82;refine(a8c H3 x.regs[j] N1.2.1 (λq hq=>(a2v N1.1.ok).2 q hq) a ha X3).mono ?_;rintro e w4 ⟨rfl,h4,x4,fr⟩;rw[<-uH NX] at h4;have H4:=uU h4;have X4:=uU x4;have FR:=uU (show ∀q,q<w3.heap.size->q≠b->(∀j,j<x.cells.length->q≠cB j)->w4.heap[q]?=w3.heap[q]? from λq h1 h2 h3=>uH fr q h1 h2 (λm h4=>h3 m (by rw[(uH SH j).len] at h4;exact h4)));clear h4 x4 fr) | (go_at_call 123;refine(a6q (H2.ext (Ext.refl _).drew) N1.1.r2 x.regs[j] N1.2.1 N1.2.2).mono ?_;rintro e w3 ⟨rfl,x3⟩;have LA:=True.intro;have x23:=Ext.trans (Ext.refl _).drew x3;have H3:=uU (H2.ext x23);have X3:=uU (X2.trans x23);have t0:=x23.keep s0;have ht1:w.heap.size<w3.heap.size:=uL t0;clear x3 x23))
   all_goals
    have CL:=uU (show w4.cell? ⟨w.heap.size,0,none⟩=some (.pointer (some ⟨b,0,none⟩)) from(World.cell?_of_block (a:=⟨w.heap.size,0,none⟩) (FR w.heap.size ht1 (by omega) BCW)).trans t0);go_wp2_with fail;go_roundw
    case rel=>exact⟨j+1,by omega,by go_num,H4,X4,CL⟩
    case measure=>simp [intOf];omega
  ·have je:j=x.regs.length:=by omega
   subst je;rw[b5b] at hG;have g0:=uH hm0
   have SL:=uU (show Snd (qK x)/\(qK x).phase=2 by
    have:=uH SH x.regs.length;rw[b5b] at this;exact⟨this.s,this.phase.trans HP⟩)
   have hs0:w.heap.size<wr.heap.size:=uL g0;cases hgr:(qK x).gray with
   | nil=>
    have EF:=uU (show eC x=dD (qK x) (2+1) 0 by rw[uH EU,if_pos hgr];rfl);have RG:=uU (show RAt wr b bn hd [] by have:=hG.sb.rg;rw[hgr] at this;exact this);clear hgr;go_wp2_with fail;refine(b0t b bn hd _ RG).mono ?_;rintro e w3 ⟨rfl,x3⟩;have k0:=x3.keep g0;have H3:=uU (hG.ext x3);have X3:=uU (hxr.trans x3);clear x3 g0 hs0;go_wp2_with fail;refine(a6n H3 2 SL.2 rfl rfl (by omega) a ha X3).mono ?_;rintro e w4 ⟨rfl,h4,x4⟩;go_wp2_with fail;go_ret;exact⟨by rw[uH EF];rfl,by rw[uH EF];exact uH h4,x4⟩
   | cons g G=>
    have EF:=uU (show eC x=qK x by rw[uH EU,if_neg (by rw[hgr];simp)]);have EP:=uU (show(eC x).phase=2 by rw[uH EF];exact SL.2);have RG:=uU (show RAt wr b bn hd (g::G) by have:=hG.sb.rg;rw[hgr] at this;exact this);clear hgr;go_wp2_with fail;refine(a6p b bn hd g G _ RG).mono ?_;rintro e w3 ⟨rfl,x3⟩;have k0:=x3.keep g0;have H3:=uU (hG.ext x3);have X3:=uU (hxr.trans x3);have hs3:w.heap.size<w3.heap.size:=uL k0;clear x3 g0 hs0;go_wp2_with fail;go_ret;exact⟨by rw[uH EP];rfl,by rw[uH EF];exact uH H3,X3⟩
theorem c4b[Inhabited uN](h:SAt B w b x ar kr v4 v8 br cB cO bn pb pa pk kn hd vf F vk K role)(s:Snd x)(hp:x.phase=2)(hg:x.gray=[])(a:World)(ha:a.heap.size<=B)(hx:Ext a w):
  Calls Tryz.prog 329 #[.agg #[.pointer (some ⟨b,0,none⟩)]] w λe w'=>e=.returned (zV (eC x).phase b)/\Hid (SAt B w' b (eC x) ar kr v4 v8 br cB cO bn pb pa pk kn hd vf F vk K role)/\Ext a w':=by
 have H:=uU h;have XA:=(Ext.refl w).alloc (.cells #[.pointer (some ⟨b,0,none⟩)] 234);have RG:=uU (show RAt w b bn hd [] by have:=h.sb.rg;rw[hg] at this;exact this);have QA:=uU (b0t b bn hd _ (RG.block (XA.block b h.sb.nb.1)));have QL:=uU (λW (e:Ext w W)=>c7t (h.ext e) s hp hg a ha (hx.trans e));have XA2:=uU XA;have hbw:b<w.heap.size:=h.sb.nb.1;clear h hp hg XA s;go_enter Tryz.func329,Tryz.ntmps329;go_wp2_with fail;refine QA.mono ?_;rintro e w1 ⟨rfl,x1⟩;have r0:w1.cell? ⟨w.heap.size,0,none⟩=some (.pointer (some ⟨b,0,none⟩)):=x1.keep (by simp [go_sem]);have X1:=uU (XA2.trans x1);go_wp2_with fail;refine(QL _ X1).mono ?_;rintro e w2 ⟨rfl,h2,x2⟩;go_wp2_with fail;go_ret;exact⟨rfl,h2,x2⟩
def Gave[Inhabited uN](B:Nat)(w w':World)(b:Nat)(y:Hp)(ar:Option Addr)(kr:Nat)(v4 v8:Value)(br:Nat)(cB cO:Nat->Nat)(bn:Nat)(pb:Nat->Nat)(kn hd:Nat)(vf:Value)(F:List Int)(vk:Value)(K:List Nat)(i:Nat):Prop:=
 (∃pa' pk' vf' F' role',SAt B w' b y ar kr v4 v8 br cB cO bn pb pa' pk' kn hd vf' F' vk K role'/\Ho F'/\F'.Perm ((i:Int)::F))/\∀q,q<w.heap.size->q≠b->q≠cB i->vf.ownBlock≠some q->w'.heap[q]?=w.heap[q]?
theorem a9h[Inhabited uN](h:SAt B w b x ar kr v4 v8 br cB cO bn pb pa pk kn hd vf F vk K role)(i:Nat)(hi:i<x.cells.length)(ho:Ho F)(hl:F.length<=1000000000)(a:World)(ha:a.heap.size<=B)(hx:Ext a w):
  Calls Tryz.prog 332 #[.pointer (some ⟨b,0,none⟩),ndp bn i] w λe w'=>e=.returned (.tuple #[])/\Gave B w w' b { x with cells:=x.cells.set i Cl0 } ar kr v4 v8 br cB cO bn pb kn hd vf F vk K i/\Ext a w':=by
 have H:=uU h;obtain⟨m0,m1⟩:=h.sb.nd i hi;obtain⟨e0,e1,e2,e3,e4,e5,e6⟩:=h.rw.s i hi;have e7:=h.rw.p7 i hi;have fc:=(h.rw.nc i hi).1.2;have NBC:=uU (show ¬bn=cB i from λe=>by have h1:=h.sp.n;have h2:=h.sp.c i hi;rw[e] at h1;omega);have nbc:¬bn=cB i:=uH NBC;have ncb:¬cB i=bn:=λe=>uH NBC e.symm
 have hbc:cB i<w.heap.size:=uL e0;have hbn:bn<w.heap.size:=uL m0;have G2:=uU (h.wiped i hi 0 0);have X2:=uU ((a0g w (cB i) (cO i) 0 0).ext hx (λq hq e=>by have:=(h.rw.nc i hi).2;omega));have HO:=uU (And.intro ho hl);have M0:=uU ((World.cell?_of_block (a:=⟨bn,i*2,none⟩) ((a0g w (cB i) (cO i) 0 0).block bn hbn nbc)).trans m0);obtain⟨W2,hW2⟩:∃W,W=zY w (cB i) (cO i) 0 0:=⟨_,rfl⟩;rw[<-hW2] at G2 X2 M0;have O2:=uU (show uX (λq=>q=cB i) w W2 by rw[hW2];exact a0g w (cB i) (cO i) 0 0);unfold zY at hW2;clear h ho hl;go_enter Tryz.func332,Tryz.ntmps332;go_wp2_with fail;rw[<-hW2];clear hW2 m0 m1 e0 e1 e2 e3 e4 e5 e6 e7 fc;have k0:=uH M0;have hB:B<=W2.heap.size:=by have:=G2.sb.lo.2.1;have:=G2.sb.lo.2.2.1;omega
 go_region_with (go_at_call 107;refine(b2j _ B b 14 vf F i (G2.sb.fr.ext (Ext.refl W2).drew) (by simpa using hB) HO.1 HO.2).mono ?_;rintro e w3 ⟨rfl,v3,L3,l3,o3,p3,q3⟩;have Q3:=uU q3;have R3:=uU (And.intro l3 (And.intro o3 p3));clear l3 o3 p3 q3)
 all_goals
  have NF:=uU (show Nf1 b w3 from⟨Nat.lt_of_lt_of_le G2.sb.nb.1 (by have:=Q3.size;simpa using this),λj=>(Q3.hfr j).trans ((G2.sb.nb.ext (Ext.refl W2).drew).2 j)⟩);have G3:=uU ((G2.ext (Ext.refl W2).drew).freed R3.1 Q3 NF)
  have FN:=uU (show Gave B w w3 b { x with cells:=x.cells.set i Cl0 } ar kr v4 v8 br cB cO bn pb kn hd vf F vk K i by
   obtain⟨role',g⟩:=G3;refine⟨⟨_,_,v3,L3,role',g,R3.2.1,R3.2.2⟩,λq hq h1 h2 h3=>?_⟩;have hq2:q<W2.heap.size:=Nat.lt_of_lt_of_le hq O2.size;exact(Q3.block q (by simpa using hq2) h1 h3).trans (O2.block q hq h2))
  have XN:=uU (Q3.ext X2.drew (by have:=G2.sb.lo.1;omega) (λk hk=>by have:=(G2.sb.fr.own.lt k hk).1;omega));go_wp2_with fail
  go_end0
  exact⟨rfl,FN,XN⟩
theorem c4c[Inhabited uN](h:SAt B w b x ar kr v4 v8 br cB cO bn pb pa pk kn hd vf F vk K role)(hp:x.phase=3)(he:x.hand=x.cells.length)(a:World)(ha:a.heap.size<=B)(hx:Ext a w):
  Calls Tryz.prog 331 #[.agg #[.pointer (some ⟨b,0,none⟩)]] w λe w'=>e=.returned (zV (dE x).phase b)/\Hid (SAt B w' b (dE x) ar kr v4 v8 br cB cO bn pb pa pk kn hd vf F vk K role)/\Ext a w':=by
 have E:=uU (show dE x=dD x (3+1) 0 by unfold dE;rw[if_pos he];rfl);have H:=uU h;have HP:=uU hp;have XA:=(Ext.refl w).alloc (.cells #[.pointer (some ⟨b,0,none⟩)] 235);have QA:=uU (a6k x.hand b x.cells.length kn (some ⟨bn,0,none⟩) _ (XA.keep h.sb.bx.2.2.2.2.2.2.1) (XA.keep h.sb.n13) (by simpa using he));have XA2:=uU XA;have hbw:b<w.heap.size:=h.sb.nb.1;clear h hp he XA;go_enter Tryz.func331,Tryz.ntmps331;go_wp2_with fail;refine QA.mono ?_;rintro e w1 ⟨rfl,x1⟩;have r0:w1.cell? ⟨w.heap.size,0,none⟩=some (.pointer (some ⟨b,0,none⟩)):=x1.keep (by simp [go_sem]);have X1:=uU (XA2.trans x1);go_wp2_with fail;refine(a6n (H.ext X1) 3 HP rfl rfl (by omega) a ha (hx.trans X1)).mono ?_;rintro e w2 ⟨rfl,h2,x2⟩;go_wp2_with fail;go_ret;exact⟨by rw[uH E];rfl,by rw[uH E];exact uH h2,x2⟩
theorem b3a(s:Snd x)(i:Nat)(hi:x.hand=(i:Int))(hin:i<x.cells.length)(hs:(x.c i).st≠1):dE x={ x with hand:=(i:Int)+1 }:=by
 have ei:x.hand.toNat=i:=by omega
 have h0:a1u (x.c i)=x.c i:=by
  have hc:(x.c i).color=0:=by
   rcases s.r2.1 i hin with⟨_,b,_⟩ | ⟨_,b⟩ | ⟨a,_⟩
   ·exact b.2.2.2.2.1
   ·exact b.1.2.2.2.2.1
   ·exact absurd a hs
  unfold a1u;rw[<-hc]
 have h1:x.cells.set i (x.c i)=x.cells:=by
  rw[<-Hp.c_eq x i hin];simp
 unfold dE;rw[if_neg (by omega),ei,if_neg (by simp [whB];intro e;exact absurd e hs),h0,h1,hi]
theorem c0h[Inhabited uN](h:SAt B w b x ar kr v4 v8 br cB cO bn pb pa pk kn hd vf F vk K role)(s:Snd x)(hp:x.phase=3)(i:Nat)(hi:x.hand=(i:Int))(hin:i<x.cells.length)(hs:((x.c i).st == 1)=false)(a:World)(ha:a.heap.size<=B)(hx:Ext a w):
  Calls Tryz.prog 331 #[.agg #[.pointer (some ⟨b,0,none⟩)]] w λe w'=>e=.returned (zV (dE x).phase b)/\Hid (SAt B w' b (dE x) ar kr v4 v8 br cB cO bn pb pa pk kn hd vf F vk K role)/\Ext a w':=by
 have E:=uU (b3a s i hi hin (by simpa using hs));have EP:=uU (show(dE x).phase=3 by rw[uH E];exact hp);have H:=uU h;have n8:=s.ok.n8;have XA:=(Ext.refl w).alloc (.cells #[.pointer (some ⟨b,0,none⟩)] 235);have c6:=h.sb.bx.2.2.2.2.2.2.1;rw[hi] at c6;have QA:=uU (a1k b x.cells.length kn bn i _ (XA.keep c6) (XA.keep h.sb.n13) hin);have XA2:=uU XA;have hbw:b<w.heap.size:=h.sb.nb.1;have lo:=h.sb.lo.1;have HI:=uU hi;have WH:=uU (show whB (x.c i)=false by simp [whB,hs]);clear h hp XA s hi c6;go_enter Tryz.func331,Tryz.ntmps331;go_wp2_with fail;refine QA.mono ?_;rintro e w1 ⟨rfl,x1⟩;have r0:w1.cell? ⟨w.heap.size,0,none⟩=some (.pointer (some ⟨b,0,none⟩)):=x1.keep (by simp [go_sem]);have X1:=uU (XA2.trans x1);have H1:=uU (H.ext X1);have m1:=(H1.sb.nd i hin).2;have p0:=(H1.rw.s i hin).1;have QS:=uU (a5h (x.c i) bn i (cB i) (cO i) w1 m1 (H1.rw.s i hin));rw[uH WH] at QS;clear x1 XA2 QA;go_wp2_with fail;refine QS.mono ?_;rintro e w2 ⟨rfl,hw2⟩;subst hw2;have c6:w2.cell? ⟨b,6,none⟩=some (iv i):=by have:=H1.sb.bx.2.2.2.2.2.2.1;rw[uH HI] at this;exact this
 have f6:=H1.sb.nb.2 6;have hb1:b<w2.heap.size:=uL c6;have hb2:w.heap.size<w2.heap.size:=uL r0;have FN:=uU (H1.hand ((i:Int)+1));have XN:=uU ((hx.trans X1).setCell (p:=⟨b,6,none⟩) (show a.heap.size<=b by omega) (iv ((i:Int)+1)));go_wp2_with fail;go_ret;exact⟨by rw[uH EP];rfl,by rw[uH E];exact uH FN,XN⟩
theorem c4d:(Tryz.prog.info? 126).map (λi=>(i.zero,i.size,i.bytes))=some (some (.pointer none),1,8):=by kernel_rfl
theorem SAt.white[Inhabited uN](h:SAt B w b x ar kr v4 v8 br cB cO bn pb pa pk kn hd vf F vk K role)(i:Nat)(hi:i<x.cells.length):SAt B (w.setCell ⟨cB i,cO i+5,none⟩ (iv 0)) b { x with cells:=x.cells.set i (a1u (x.c i)) } ar kr v4 v8 br cB cO bn pb pa pk kn hd vf F vk K role:=by
 have hn:0<x.cells.length:=by omega
 refine h.setc hi rfl (uX.setCell (S:=λq=>q=cB i) (uX.refl _ w) (p:=⟨cB i,cO i+5,none⟩) rfl _) ?_ (λk hk=>uC _ (.inr (by omega))) ((h.rw.nc i hi).1.set _ _);obtain⟨a0,a1,a2,a3,a4,a5,a6⟩:=h.rw.s i hi;refine⟨?_,?_,?_,?_,?_,World.cell?_setCell_same _ _ _ a5,?_⟩
 ·rw[uC _ (.inr (by omega))];exact a0
 ·rw[uC _ (.inr (by omega))];exact a1
 ·rw[uC _ (.inr (by omega))];exact a2
 ·rw[uC _ (.inr (by omega))];exact a3
 ·rw[uC _ (.inr (by omega))];exact a4
 ·rw[uC _ (.inr (by omega))];exact a6
theorem c0i[Inhabited uN](h:SAt B w b x ar kr v4 v8 br cB cO bn pb pa pk kn hd vf F vk K role)(n8:x.cells.length<=8000)(hp:x.phase=3)(i:Nat)(hi:x.hand=(i:Int))(hin:i<x.cells.length)(hs:((x.c i).st == 1)=true)(hc:((x.c i).color == 0)=false)(hK:K.length<=8000)(a:World)(ha:a.heap.size<=B)(hx:Ext a w):
  Calls Tryz.prog 331 #[.agg #[.pointer (some ⟨b,0,none⟩)]] w λe w'=>e=.returned (zV (dE x).phase b)/\Hid (∃vk' role',SAt B w' b (dE x) ar kr v4 v8 br cB cO bn pb pa pk kn hd vf F vk' (K++[i]) role')/\Ext a w':=by
 have ei:x.hand.toNat=i:=by omega
 have E:=uU (show dE x={ x with cells:=x.cells.set i (a1u (x.c i)),hand:=(i:Int)+1 } by
  unfold dE;rw[if_neg (by omega),ei,if_neg (by simp [whB,hc]),hi])
 have EP:=uU (show(dE x).phase=3 by rw[uH E];exact hp);have H:=uU h;obtain⟨i0,hi0,hy0,hy1,hy2⟩:=info_parts c4d;have XA:=(Ext.refl w).alloc (.cells #[.pointer (some ⟨b,0,none⟩)] 235);have c6:=h.sb.bx.2.2.2.2.2.2.1;rw[hi] at c6;have QA:=uU (a1k b x.cells.length kn bn i _ (XA.keep c6) (XA.keep h.sb.n13) hin);have XA2:=uU XA;have hbw:b<w.heap.size:=h.sb.nb.1;have lo:=h.sb.lo.1;have hn:0<x.cells.length:=by omega
 have HI:=uU hi;have WH:=uU (show whB (x.c i)=false by simp [whB,hc]);have HBC:=uU (h.rw.nc i hin);clear h hp XA hi c6 ei hc;go_enter Tryz.func331,Tryz.ntmps331;go_wp2_with fail;refine QA.mono ?_;rintro e w1 ⟨rfl,x1⟩;have r0:w1.cell? ⟨w.heap.size,0,none⟩=some (.pointer (some ⟨b,0,none⟩)):=x1.keep (by simp [go_sem]);have X1:=uU (XA2.trans x1);have H1:=uU (H.ext X1);have m1:=(H1.sb.nd i hin).2;have p0:=(H1.rw.s i hin).1;have p5:=(H1.rw.s i hin).2.2.2.2.2.1;have fc:=(H1.rw.nc i hin).1.2 (cO i+5);have QS:=uU (a5h (x.c i) bn i (cB i) (cO i) w1 m1 (H1.rw.s i hin));rw[uH WH] at QS;clear x1 XA2 QA;go_wp2_with fail;refine QS.mono ?_;rintro e w2 ⟨rfl,hw2⟩;subst hw2;have G2:=uU (H1.white i hin);obtain⟨W2,hW2⟩:∃W,W=w2.setCell ⟨cB i,cO i+5,none⟩ (iv 0):=⟨_,rfl⟩;rw[<-hW2] at G2;have X2:=uU (show Ext a W2 by rw[hW2];exact(hx.trans X1).setCell (p:=⟨cB i,cO i+5,none⟩) (Nat.le_trans ha HBC.2) _)
 have s0:W2.cell? ⟨w.heap.size,0,none⟩=some (.pointer (some ⟨b,0,none⟩)):=by
  rw[hW2,uC _ (.inl (by have:=HBC.1.1;omega))];exact r0
 have k17:=G2.sb.k0;have hs2:w.heap.size<W2.heap.size:=uL s0;have hbW:b<W2.heap.size:=uL k17;have hbc2:cB i<w2.heap.size:=uL p5;obtain⟨avk,kvk,hvk⟩:∃a k,vk=.slice a K.length k:=⟨_,_,(a0k G2.sb.kp).1⟩;subst hvk;have f17:=G2.sb.nb.2 4017;have hB:B<=W2.heap.size:=by have:=G2.sb.lo.1;omega
 have OW:=uU G2.sb.kp;have nsb:¬w.heap.size=b:=by omega
 have nbs:¬b=w.heap.size:=by omega
 go_wp2_with fail;rw[<-hW2];have NK:=uU (show ∀q,(Value.slice avk K.length kvk).ownBlock=some q->q<w.heap.size from λq hq=>(H.sb.kp.lt q hq).2);have GSB:=uU (show ∀q,(Value.slice avk K.length kvk).ownBlock=some q->q≠b from λq hq e=>by have h1:=G2.sp.k q hq;have h2:=G2.sp.b;rw[e] at h1;omega);clear hW2 m1 p0 p5 fc r0 hbc2;have OD:=uU (show ∀o,(W2.drew.alloc o).ownsRow B 126 1 (.slice avk K.length kvk) K.length (K.map (ndp bn))/\((W2.alloc o).drew).ownsRow B 126 1 (.slice avk K.length kvk) K.length (K.map (ndp bn)) from λo=>⟨uQ OW (λq hq=>((Ext.refl W2).drew.alloc o).block q (OW.lt q hq).2),uQ OW (λq hq=>((Ext.refl W2).alloc o).drew.block q (OW.lt q hq).2)⟩);go_region_law (refine step_append_lies _ rfl _ _ 130 rfl B 126 i0 (.pointer none) 1 8 Tryz.underlying130 hi0 hy0 hy1 hy2 rfl (by decide) (.slice avk K.length kvk) K.length (K.map (ndp bn)) (by first | rfl | simp [Act.eval,Act.put]) (by first | exact(OD _).1 | exact(OD _).2 | exact OW.alloc _) _ 1 1 [ndp bn i] (by first | rfl | simp [Act.eval,Act.put];rfl) rfl (by intro j u hj;match j,hj with | 0,hj=>simp at hj;subst hj;simp [Addr.add,go_sem]) (by intro u hu;simp at hu;subst hu;rfl) (by decide) (by unfold maxLen;omega) (by omega) (by simp;omega) _ rfl ?_;intro g cap w5 hown hgrow hat hglt;have xb:=Ext.trans ((Ext.refl W2).alloc (.cells #[ndp bn i] 126)) ((Ext.refl (W2.alloc (.cells #[ndp bn i] 126))).drew);have R:=uU ((G2.ext xb).push hgrow hown (by simpa using hat));have eb:w5.heap[b]?=W2.heap[b]?:=(hgrow.block b (Nat.lt_of_lt_of_le hbW xb.size) (λe=>uH GSB b e.symm rfl)).trans (xb.block b hbW);have es:w5.heap[w.heap.size]?=W2.heap[w.heap.size]?:=(hgrow.block w.heap.size (Nat.lt_of_lt_of_le hs2 xb.size) (λe=>Nat.lt_irrefl _ (NK _ e.symm))).trans (xb.block w.heap.size hs2);have t0:=(World.cell?_of_block (a:=⟨w.heap.size,0,none⟩) es).trans s0;have e17:=(World.cell?_of_block (a:=⟨b,4017,none⟩) eb).trans k17;have g17:=(World.frozen?_of_block (a:=⟨b,4017,none⟩) eb).trans f17;have hb5:b<w5.heap.size:=uL e17;have hs5:w.heap.size<w5.heap.size:=uL t0;have X5:=uU (show Ext a (w5.setCell ⟨b,4017,none⟩ (.slice (some ⟨g,0,none⟩) (K.length+1) cap)) from(a2k (X2.trans xb) ((OD _).2) ha hgrow).setCell (p:=⟨b,4017,none⟩) (Nat.le_trans ha lo) _);clear hown hgrow hat xb eb es)
 all_goals
  have c6:(w5.setCell ⟨b,4017,none⟩ (.slice (some ⟨g,0,none⟩) (K.length+1) cap)).cell? ⟨b,6,none⟩=some (iv i):=by have:=R.sb.bx.2.2.2.2.2.2.1;exact this.trans (by rw[uH HI])
  have f6:=R.sb.nb.2 6;have t1:(w5.setCell ⟨b,4017,none⟩ (.slice (some ⟨g,0,none⟩) (K.length+1) cap)).cell? ⟨w.heap.size,0,none⟩=some (.pointer (some ⟨b,0,none⟩)):=by rw[uC _ (.inl nbs)];exact t0
  have FN:=uU (R.hand ((i:Int)+1));have XN:=uU (X5.setCell (p:=⟨b,6,none⟩) (show a.heap.size<=b by omega) (iv ((i:Int)+1)));go_wp2_with fail;go_ret;exact⟨by rw[uH EP];rfl,by rw[uH E];exact⟨_,_,FN⟩,XN⟩
end Go.Proofs.YtddkhnclmeikfaaGreat
