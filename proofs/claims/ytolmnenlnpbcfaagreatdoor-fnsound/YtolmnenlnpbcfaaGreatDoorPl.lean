import Derived.Test.YtolmnenlnpbcfaaGreatDoorPn
set_option maxRecDepth 100000
set_option maxHeartbeats 1000000
namespace Go.Proofs.YtolmnenlnpbcfaaGreatDoor
open Go.RowKit Tryz
attribute [local go_sem ↓] Go.wp_at_zero Go.wp_at_succ
theorem c9k[qd]{B:Nat}{w:World}{b:Nat}{x:Hp}{ar:Option Addr}{kr:Nat}{v4 v8:Value}{br bn:Nat}{cB cO:Nat->Nat}{pb:Nat->Nat}{pa:Nat->Option Addr}{pk:Nat->Nat}{kn hd:Nat}{vf:Value}{F:List Int}{vk:Value}{K:List Nat}{role:Nat->Nat}(h:SAt B w b x ar kr v4 v8 br cB cO bn pb pa pk kn hd vf F vk K role)(s:Snd x)(hp:x.E=2)(i:Nat)(G:List Int)(hg:x.D=(i:Int)::G)(l:i<x.A.length)(k:Nat)(hk:x.sub=(k:Int))(I:k<(x.c i).F.length)(a:World)(ha:a.heap.size<=B)(hx:Ext a w):
  Calls prog 277 #[.agg #[pP b]] w λe w'=>e=.returned (yQ (dX x).E b)/\Hid (SAt B w' b (dX x) ar kr v4 v8 br cB cO bn pb pa pk kn hd vf F vk K role)/\Ext a w':=by
 have ei:((i:Int)).toNat=i:=by omega
 have E:=uU (show dX x={ uX (uX x ((x.c i).p k).key) ((x.c i).p k).val with sub:=(k:Int)+1 } by
  have ek:x.sub.toNat=k:=by omega
  unfold dX;rw[hg];simp only[ei,if_pos (show x.sub<((x.c i).F.length:Int) by omega),ek];rw[hk])
 have EP:=uU (show(dX x).E=2 by rw[uH E];exact((a0b _ _).2.2.1.trans (a0b _ _).2.2.1).trans hp);have H:=uU h;have an:=s.ok.p200 i l;have n8:=s.ok.n8;have HG:=uU (s.good_pair (.inr hp) i k l I);have FM:=uU (show uJ ((x.c i).p k).key x.A.length/\uJ ((x.c i).p k).val x.A.length from by
  have N:=((s.r4.2 i l).2 k I).2 (λd=>by have:=d.1;omega);exact⟨N.1.1,N.2.1⟩)
 have S:=uU s;have XA:=(hO w).alloc (.cells #[pP b] 213);have RG:=uU (show RAt w b bn hd ((i:Int)::G) by have:=h.sb.rg;rw[hg]at this;exact this);have QA:=uU (a4o b bn hd i G _ (RG.block (XA.block b h.sb.nb.1)));have Y:=uU XA;have ap:b<w.heap.size:=h.sb.nb.1;have lo:=h.sb.lo.1;have hn:0<x.A.length:=by omega
 have HK:=uU hk;have kk:(k:Int)<((x.c i).F.length:Int):=by omega
 have k0:=i0N k;clear h hp XA hg hk s;go_in;go_wp21;refine QA.mono ?_;rintro e g ⟨rfl,x1⟩;rw[ei];have r0:g.cell? (aA w.heap.size 0)=some (pP b):=x1.keep (by simp[go_sem]);have X1:=uU (Y.trans x1);have V:=uU (H.ext X1);have m1:=(V.sb.nd i l).2;have p7:=V.rw.p7 i l;rw[(H.rw.pl i l (H.rw.pw l (by omega))).1]at p7;have c7:g.cell? (aA b 7)=some (iv k):=by have:=V.sb.bx.2.2.2.2.2.2.2.1;rw[uH HK]at this;exact this
 obtain⟨y0,y1,y2,y3,y4,ai⟩:=V.rw.p i l k I;have au:=cLt c7;have ao:=cLt r0;have af:=cLt m1;have aw:cB i<g.heap.size:=uZ p7;have ah:pb i<g.heap.size:=uZ y0;have zn:=λn j=>a0k g n #[iv 0,iv 0,iv 0,iv 0,iv 0,iv 0] 90 j
 have zf:=λn j=>a3o g n #[iv 0,iv 0,iv 0,iv 0,iv 0,iv 0] 90 j
 have zo:=λn o b j (h:b<g.heap.size)=>a3y g n o b j h
 clear x1 Y QA ei;go_wp21;go_quiet (fail);obtain⟨m2,rfl⟩:∃m,m=nq:=⟨_,rfl⟩;go_wp21;go_region;all_goals
  obtain⟨W2,v⟩:∃W,W=a4k ((g.drewN (m2+1)).alloc (.cells #[iv 0,iv 0,iv 0,iv 0,iv 0,iv 0] 90)) g.heap.size ((x.c i).p k):=⟨_,rfl⟩;have PB:=b4x g (m2+1) ((x.c i).p k) 90;rw[<-v]at PB;unfold a4k at v;rw[<-v];clear v zn zf zo y0 y1 y2 y3 y4 ai m1 p7 c7 af ah;obtain⟨x2,P,ac,O,ab,ad,X⟩:=PB;have H2:=uU (V.ext x2);have X2:=uU (X1.trans x2);have s0:=x2.keep r0;have hs:=cLt P;clear r0;obtain⟨z,hz⟩:=obE (uX x ((x.c i).p k).key);have M:=uU (show Snd z/\eC z ((x.c i).p k).val/\uJ ((x.c i).p k).val z.A.length/\z.sub=(k:Int) by
   rw[hz];have e:=a0b x ((x.c i).p k).key;exact⟨S.shdW _ HG.1,HG.2.keep e.2.1 (a4x x _ HG.1),by rw[e.2.1];exact FM.2,e.2.2.2.2.trans HK⟩)
  have HZ:=uU hz;have ag:=cLt s0;have A:∀j,j<x.A.length->cB j<w.heap.size:=λj u=>(H.rw.nc j u).1.1
  have al:=uU (show z.A.length=x.A.length by rw[hz];exact(a0b x _).2.1);clear hz;go_wp21;go_cut [] (λt=>Hid (SAt B t b z ar kr v4 v8 br cB cO bn pb pa pk kn hd vf F vk K role)/\Hid (Ext a t)/\Hid (t.cell? (aA w.heap.size 0)=some (pP b)/\t.cell? (aA g.heap.size 3)=some (iv ((x.c i).p k).val.k)/\t.cell? (aA g.heap.size 4)=some (iv ((x.c i).p k).val.n)/\t.cell? (aA g.heap.size 5)=some (iv ((x.c i).p k).val.a)))
  case first=>
   go_region_with (first|(have _:=LA;go_at_call 227;refine(a9k H3 ((x.c i).p k).key HG.1 (λj u=>(a2h S.ok).2 j u) a ha X3).mono ?_;rintro e w4 ⟨rfl,J,R,U⟩;rw[<-uH HZ]at J;have H4:=uU J;have X4:=uU R;have L:=uU (show ∀q,q<y.heap.size->q≠b->w.heap.size<=q->w4.heap[q]?=y.heap[q]? from λq N h2 h3=>uH U q N h2 (λj u=>by have:=A j u;omega));clear J R U)|(go_at_call 167;refine(a7r (H2.ext (eDr W2)) S.r2 ((x.c i).p k).key HG.1 FM.1).mono ?_;rintro e y ⟨rfl,Q⟩;have LA:=True.intro;have f:=kI (eDr W2) Q;have H3:=uU (H2.ext f);have X3:=uU (hx.trans (X2.trans f));have Z:=f.keep s0;have t1:=f.keep ac;have t2:=f.keep O;have t3:=f.keep ab;have t4:=f.keep ad;have t5:=f.keep X;have C:=cLt Z;have D:=cLt t3;clear Q f))
   all_goals
    go_wp21;go_meet;exact⟨H4,X4,⟨(cOb w.heap.size 0 (L w.heap.size C (by omega) (by omega))).trans Z,(cOb g.heap.size 3 (L g.heap.size D (by omega) (by omega))).trans t3,(cOb g.heap.size 4 (L g.heap.size D (by omega) (by omega))).trans t4,(cOb g.heap.size 5 (L g.heap.size D (by omega) (by omega))).trans t5⟩⟩
  case rest=>
   obtain⟨g4,aj,r⟩:=hcut;obtain⟨W4,am⟩:∃W,W=wc:=⟨_,rfl⟩;subst am;have q0:=r.1;have q3:=r.2.1;have q4:=r.2.2.1;have q5:=r.2.2.2;have ae:=cLt q0;have ak:=cLt q3;clear r P ac O ab ad X s0 hs ag;go_wp21;go_cut [] (λt=>Hid (SAt B t b (uX z ((x.c i).p k).val) ar kr v4 v8 br cB cO bn pb pa pk kn hd vf F vk K role)/\Hid (Ext a t)/\Hid (t.cell? (aA w.heap.size 0)=some (pP b)))
   case first=>
    go_region_with (first|(have _:=LA;go_at_call 227;refine(a9k H3 ((x.c i).p k).val M.2.1 (λj u=>(a2h M.1.ok).2 j u) a ha X3).mono ?_;rintro e w4 ⟨rfl,J,R,U⟩;have H4:=uU J;have X4:=uU R;have L:=uU (show ∀q,q<y.heap.size->q≠b->w.heap.size<=q->w4.heap[q]?=y.heap[q]? from λq N h2 h3=>uH U q N h2 (λj u=>by have:=A j (by rw[<-uH al];exact u);omega));clear J R U)|(go_at_call 167;refine(a7r (g4.ext (eDr W4)) M.1.r2 ((x.c i).p k).val M.2.1 M.2.2.1).mono ?_;rintro e y ⟨rfl,Q⟩;have LA:=True.intro;have f:=kI (eDr W4) Q;have H3:=uU (g4.ext f);have X3:=uU (aj.trans f);have Z:=f.keep q0;have t3:=f.keep q3;have t4:=f.keep q4;have t5:=f.keep q5;have C:=cLt Z;clear Q f))
    all_goals
     go_wp21;go_meet;exact⟨H4,X4,(cOb w.heap.size 0 (L w.heap.size C (by omega) (by omega))).trans Z⟩
   case rest=>
    obtain⟨g6,T,aa⟩:=hcut;have g0:=uH aa;have d7:wc.cell? (aA b 7)=some (iv k):=by have:=g6.sb.bx.2.2.2.2.2.2.2.1;rw[(a0b _ _).2.2.2.2,M.2.2.2]at this;exact this
    have g7:=g6.sb.nb.2 7;have av:=cLt d7;have aq:=cLt g0;have FN:=uU (g6.subs ((k:Int)+1));have XN:=uU (T.sc b 7 (show a.heap.size<=b by omega) (iv ((k:Int)+1)));clear q0 q3 q4 q5 ae ak aa g6 T;go_wp21;go_ret;exact⟨by rw[uH EP];rfl,by rw[uH E,<-uH HZ];exact uH FN,XN⟩
end Go.Proofs.YtolmnenlnpbcfaaGreatDoor
