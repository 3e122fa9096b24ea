import Derived.Test.YtddkhnclmeikfaaGreatPu
import Derived.Test.YtddkhnclmeikfaaGreatLv
import Derived.Test.YtddkhnclmeikfaaGreatImpT
import Derived.Laws.Pointers
set_option maxRecDepth 100000
set_option maxHeartbeats 2000000
namespace Go.Proofs.YtddkhnclmeikfaaGreat
open Go.RowKit
attribute [local go_sem ↓] Go.wp_at_zero Go.wp_at_succ
variable{x:Hp}{w w':World}{b kr kn B br bn hd kc kg:Nat}{ar an ag:Option Addr}{F:List Int}{v4 v8 vf vk:Value}{cB cO pb pk role:Nat->Nat}{pa ac:Nat->Option Addr}{K:List Nat}{P:Program}
def gapV(t:Option Nat)(bn:Nat):Value:=match t with
 | none=>.pointer none
 | some j=>ndp bn j
def b3w(x:Hp)(F F':List Int):Prop:=Ho F'/\F'.length<=F.length/\(∀v,v∈F'->v∈F)/\∀i,i<x.A.length->(x.c i).st=0->(i:Int)∈F->(i:Int)∈F'
def GapT(x:Hp)(F':List Int)(t:Option Nat):Prop:=match t with
 | none=>F'=[]
 | some j=>j<x.A.length/\(x.c j).st=0/\∀v,v∈F'->(j:Int)<=v
theorem b3w.next{F' L:List Int}{j:Nat}(h:b3w x F F')(ho:Ho L)(hp:((j:Int)::L).Perm F')(hj:j<x.A.length->(x.c j).st≠0):b3w x F L/\L.length<F'.length:=by
 have hlen:=hp.length_eq;simp at hlen;refine⟨⟨ho,by have:=h.2.1;omega,λv hv=>h.2.2.1 v (hp.mem_iff.1 (List.mem_cons_of_mem _ hv)),λi hi hs hm=>?_⟩,by omega⟩;rcases List.mem_cons.1 (hp.mem_iff.2 (h.2.2.2 i hi hs hm)) with e | e
 ·have:i=j:=by omega
  subst this;exact absurd hs (hj hi)
 ·exact e
theorem gap_any[Inhabited uQ](h:SAt B w b x ar kr v4 v8 br cB cO bn pb pa pk kn hd vf F vk K role)(ho:Ho F)(hl:F.length<=1000000000)(nn:∀v,v∈F->0<=v):
  Calls Tryz.prog 326 #[.pointer (some ⟨b,0,none⟩)] w λe w'=>∃t vf' F',e=.returned (gapV t bn)/\Hid (eK w' B b 14 vf' F'/\QFr b 14 vf vf' w w')/\Hid (b3w x F F'/\GapT x F' t):=by
 have H:=uU h;have LS:=uU h.sb.fr;have NN:=uU nn;have N13:=uU h.sb.n13;have G0:=uU (show b3w x F F from⟨ho,Nat.le_refl _,λ_ h=>h,λ_ _ _ h=>h⟩);have FARB:=uU (show ∀wr vf',QFr b 14 vf vf' w wr->∀k,k<w.heap.size->role k≠4->role k≠0->wr.heap[k]?=w.heap[k]? from λwr vf' q k hk h1 h2=>q.block k hk (λe=>h2 (by rw[e];exact h.sp.b)) (λe=>h1 (h.sp.f k e)));clear h ho nn;go_enter Tryz.func326,Tryz.ntmps326;go_wp2_with fail
 go_loopg [] (F.length+1) (λgk wr=>∃(vf':Value) (F':List Int),F'.length<gk/\Hid (eK wr B b 14 vf' F'/\QFr b 14 vf vf' w wr)/\Hid (b3w x F F'))
 case atStart=>exact⟨vf,F,by omega,⟨LS,QFr.refl _ _ _ _⟩,G0⟩
 case round=>
  clear LS G0;obtain⟨vf',F',hlt,hls,hgl⟩:=hrel;have LS:=uU hls.1;have QQ:=uU hls.2;have n13:wr.cell? ⟨b,13,none⟩=some (.slice (some ⟨bn,0,none⟩) x.A.length kn):=(QQ.hdr 13 (by omega)).trans N13;clear hls;by_cases hz:F'.length=0
  ·obtain⟨ad,cap,rfl⟩:=LS.empty hz;have hd14:=LS.hd;have FE:=uU (show F'=[] from List.length_eq_zero_iff.1 hz);go_wp2_with fail;refine(a3r _ b 14 ad cap hd14).mono ?_;rintro e w1 ⟨rfl,rfl⟩;go_wp2_with fail;go_ret;exact⟨none,_,F',rfl,⟨LS,QQ⟩,hgl,FE⟩
  ·have hpos:0<F'.length:=by omega
   obtain⟨g,cap,rfl,hgb⟩:=LS.form hpos;have hd14:=LS.hd;have c0:=LS.cell 0 hpos;obtain⟨j,hj⟩:∃j:Nat,it F' 0=(j:Int):=⟨(it F' 0).toNat,by have:=uH NN _ (hgl.2.2.1 _ (a2n F' 0 hpos));omega⟩;rw[hj] at c0;have j0:(0:Int)<=(j:Int):=by omega
   have HJ:=uU hj;clear hj hgb hz;by_cases hjn:j<x.A.length
   ·obtain⟨m0,m1⟩:=H.sb.nd j hjn;have p0:=(H.rw.s j hjn).1;have n1:wr.cell? ⟨bn,j*2+1,none⟩=some (.pointer (some ⟨cB j,cO j,none⟩)):=(World.cell?_of_block (a:=⟨bn,_,none⟩) (FARB wr _ QQ bn H.sb.lo.2.2.1 (by rw[H.sp.n];omega) (by rw[H.sp.n];omega))).trans m1;have hn:0<x.A.length:=by omega
    have o0:wr.cell? ⟨cB j,cO j,none⟩=some (iv (x.c j).st):=(World.cell?_of_block (a:=⟨cB j,_,none⟩) (FARB wr _ QQ (cB j) (H.rw.nc j hjn).1.1 (by rw[H.sp.c j hjn];omega) (by rw[H.sp.c j hjn];omega))).trans p0;have j1:(j:Int)<(x.A.length:Int):=by omega
    clear m0 m1 p0 hn;go_wp2_with fail;refine(a1m _ b 14 g 0 F'.length cap j hpos hd14 c0).mono ?_;rintro e w1 ⟨rfl,rfl⟩;cases q0:((x.c j).st == 0)
    ·have q0':¬(x.c j).st=0:=by simpa using q0
     have NJ:=uU (show j<x.A.length->(x.c j).st≠0 from λ_=>q0');go_wp2_with fail;refine(b0j _ B b 14 _ F' LS hpos hgl.1 (by have:=hgl.2.1;omega)).mono ?_;rintro e w2 ⟨rfl,v2,L2,l2,o2,p2,q2⟩;rw[uH HJ] at p2;have R:=uU (And.intro (And.intro l2 (QQ.trans q2)) (hgl.next o2 p2 NJ));clear l2 o2 p2 q2 n13 hd14 c0;go_wp2_with fail
     go_roundg F'.length
     case measure=>exact hlt
     case rel=>exact⟨v2,L2,R.2.2,R.1,R.2.1⟩
    ·have GT:=uU (show GapT x F' (some j) from⟨hjn,by simpa using q0,λv hv=>by have:=hgl.1.least hv;rw[uH HJ] at this;exact this⟩);go_wp2_with fail;go_ret;exact⟨some j,_,F',rfl,⟨LS,QQ⟩,hgl,GT⟩
   ·have j1:¬(j:Int)<(x.A.length:Int):=by omega
    go_wp2_with fail;refine(a1m _ b 14 g 0 F'.length cap j hpos hd14 c0).mono ?_;rintro e w1 ⟨rfl,rfl⟩;have NJ:=uU (show j<x.A.length->(x.c j).st≠0 from λh=>absurd h hjn);go_wp2_with fail;refine(b0j _ B b 14 _ F' LS hpos hgl.1 (by have:=hgl.2.1;omega)).mono ?_;rintro e w2 ⟨rfl,v2,L2,l2,o2,p2,q2⟩;rw[uH HJ] at p2;have R:=uU (And.intro (And.intro l2 (QQ.trans q2)) (hgl.next o2 p2 NJ));clear l2 o2 p2 q2 n13 hd14 c0;go_wp2_with fail
    go_roundg F'.length
    case measure=>exact hlt
    case rel=>exact⟨v2,L2,R.2.2,R.1,R.2.1⟩
theorem SAt.phased[Inhabited uQ](h:SAt B w b x ar kr v4 v8 br cB cO bn pb pa pk kn hd vf F vk K role)(p hn:Int):
  SAt B (((w.setCell ⟨b,6,none⟩ (iv hn)).setCell ⟨b,7,none⟩ (iv 0)).setCell ⟨b,5,none⟩ (iv p)) b (dN x p hn) ar kr v4 v8 br cB cO bn pb pa pk kn hd vf F vk K role:=by
 refine h.boxed (x':=dN x p hn) (uZ.setCell (S:=λq=>q=b) (uZ.setCell (S:=λq=>q=b) (uZ.setCell (S:=λq=>q=b) (uZ.refl _ w) (p:=⟨b,6,none⟩) rfl _) (p:=⟨b,7,none⟩) rfl _) (p:=⟨b,5,none⟩) rfl _) (((h.sb.nb.set _ _).set _ _).set _ _) rfl rfl rfl (((h.sb.bx.set6 hn).set7 0).set5 p) (λk hk=>?_);rw[uC _ (.inr (by omega)),uC _ (.inr (by omega)),uC _ (.inr (by omega))]
theorem a6v[Inhabited uQ](h:SAt B w b x ar kr v4 v8 br cB cO bn pb pa pk kn hd vf F vk K role)(p:Int)(hp:x.E=p)(h5:(p == 5)=false)(h6:(p == 6)=false)(hr:0<=p/\p<=6)(a:World)(ha:a.heap.size<=B)(hx:Ext a w):
  Calls Tryz.prog 143 #[.pointer (some ⟨b,0,none⟩)] w λe w'=>e=.returned (zK (p+1) b)/\Hid (SAt B w' b (dN x (p+1) 0) ar kr v4 v8 br cB cO bn pb pa pk kn hd vf F vk K role)/\Ext a w':=by
 have H:=uU h;have c5:=h.sb.bx.2.2.2.2.2.1;have c6:=h.sb.bx.2.2.2.2.2.2.1;have c7:=h.sb.bx.2.2.2.2.2.2.2.1;rw[hp] at c5;have f5:=h.sb.nb.2 5;have f6:=h.sb.nb.2 6;have f7:=h.sb.nb.2 7;have lo:=h.sb.lo.1;have wp:wrap64 (p+1)=p+1:=by unfold wrap64;omega
 have FN:=uU (h.phased (p+1) 0);have XN:=uU (((hx.setCell (p:=⟨b,6,none⟩) (show a.heap.size<=b by omega) (iv 0)).setCell (p:=⟨b,7,none⟩) (show a.heap.size<=b by omega) (iv 0)).setCell (p:=⟨b,5,none⟩) (show a.heap.size<=b by omega) (iv (p+1)));have hr2:0<=p+1/\p+1<=6:=⟨by omega,by simp at h6;omega⟩;clear h hp;go_enter Tryz.func143,Tryz.ntmps143;go_wp2_with fail;refine(b1u (p+1) b _ (FN.sb.bx.2.2.2.2.2.1) hr2).mono ?_;rintro e w2 ⟨rfl,hw2⟩;subst hw2;go_wp2_with fail;go_ret;exact⟨rfl,FN,XN⟩
theorem turn_5[Inhabited uQ](h:SAt B w b x ar kr v4 v8 br cB cO bn pb pa pk kn hd vf F vk K role)(hp:x.E=5)(a:World)(ha:a.heap.size<=B)(hx:Ext a w):
  Calls Tryz.prog 143 #[.pointer (some ⟨b,0,none⟩)] w λe w'=>e=.returned (zK 6 b)/\Hid (SAt B w' b (dN x 6 x.A.length) ar kr v4 v8 br cB cO bn pb pa pk kn hd vf F vk K role)/\Ext a w':=by
 have H:=uU h;have c5:=h.sb.bx.2.2.2.2.2.1;have c6:=h.sb.bx.2.2.2.2.2.2.1;have c7:=h.sb.bx.2.2.2.2.2.2.2.1;have c13:=h.sb.n13;rw[hp] at c5;have f5:=h.sb.nb.2 5;have f6:=h.sb.nb.2 6;have f7:=h.sb.nb.2 7;have lo:=h.sb.lo.1
 have FN:=uU (show SAt B ((((w.setCell ⟨b,6,none⟩ (iv 0)).setCell ⟨b,7,none⟩ (iv 0)).setCell ⟨b,6,none⟩ (iv x.A.length)).setCell ⟨b,5,none⟩ (iv 6)) b (dN x 6 x.A.length) ar kr v4 v8 br cB cO bn pb pa pk kn hd vf F vk K role by
  refine h.boxed (x':=dN x 6 x.A.length) (uZ.setCell (S:=λq=>q=b) (uZ.setCell (S:=λq=>q=b) (uZ.setCell (S:=λq=>q=b) (uZ.setCell (S:=λq=>q=b) (uZ.refl _ w) (p:=⟨b,6,none⟩) rfl _) (p:=⟨b,7,none⟩) rfl _) (p:=⟨b,6,none⟩) rfl _) (p:=⟨b,5,none⟩) rfl _) ((((h.sb.nb.set _ _).set _ _).set _ _).set _ _) rfl rfl rfl ((((h.sb.bx.set6 0).set7 0).set6 x.A.length).set5 6) (λk hk=>?_);rw[uC _ (.inr (by omega)),uC _ (.inr (by omega)),uC _ (.inr (by omega)),uC _ (.inr (by omega))])
 have XN:=uU ((((hx.setCell (p:=⟨b,6,none⟩) (show a.heap.size<=b by omega) (iv 0)).setCell (p:=⟨b,7,none⟩) (show a.heap.size<=b by omega) (iv 0)).setCell (p:=⟨b,6,none⟩) (show a.heap.size<=b by omega) (iv x.A.length)).setCell (p:=⟨b,5,none⟩) (show a.heap.size<=b by omega) (iv 6));clear h hp;go_enter Tryz.func143,Tryz.ntmps143;go_wp2_with fail;refine(b1u 6 b _ (FN.sb.bx.2.2.2.2.2.1) (by omega)).mono ?_;rintro e w2 ⟨rfl,hw2⟩;subst hw2;go_wp2_with fail;go_ret;exact⟨rfl,FN,XN⟩
theorem turn_6[Inhabited uQ]{B:Nat}{w:World}{b:Nat}{x:Hp}{ar:Option Addr}{kr:Nat}{v4 v8:Value}{br bn:Nat}{cB cO:Nat->Nat}{pb:Nat->Nat}{pa:Nat->Option Addr}{pk:Nat->Nat}{kn hd:Nat}{vf:Value}{F:List Int}{vk:Value}{K:List Nat}{role:Nat->Nat}(h:SAt B w b x ar kr v4 v8 br cB cO bn pb pa pk kn hd vf F vk K role)(hp:x.E=6)(hr:0<=x.Q/\x.Q<=1000000000)(a:World)(ha:a.heap.size<=B)(hx:Ext a w):
  Calls Tryz.prog 143 #[.pointer (some ⟨b,0,none⟩)] w λe w'=>e=.returned (zK 0 b)/\Hid (SAt B w' b { dN x 0 0 with Q:=if x.Q<1000000000 then x.Q+1 else x.Q } ar kr v4 v8 br cB cO bn pb pa pk kn hd vf F vk K role)/\Ext a w':=by
 have H:=uU h;have c5:=h.sb.bx.2.2.2.2.2.1;have c6:=h.sb.bx.2.2.2.2.2.2.1;have c7:=h.sb.bx.2.2.2.2.2.2.2.1;have c11:=h.sb.bx.2.2.2.2.2.2.2.2.2.2.2.1;rw[hp] at c5;have f5:=h.sb.nb.2 5;have f6:=h.sb.nb.2 6;have f7:=h.sb.nb.2 7;have f11:=h.sb.nb.2 11;have lo:=h.sb.lo.1;obtain⟨r,er⟩:∃r,r=if x.Q<1000000000 then x.Q+1 else x.Q:=⟨_,rfl⟩
 have wr:wrap64 (x.Q+1)=x.Q+1:=by unfold wrap64;omega
 have ER:=uU (show ∀v,(v=x.Q+1/\x.Q+1<=1000000000)\/(v=1000000000/\1000000000<=x.Q+1)->v=r from λv hv=>by rw[er];split <;> omega);rw[<-er]
 have FN:=uU (show SAt B ((((w.setCell ⟨b,6,none⟩ (iv 0)).setCell ⟨b,7,none⟩ (iv 0)).setCell ⟨b,5,none⟩ (iv 0)).setCell ⟨b,11,none⟩ (iv r)) b { dN x 0 0 with Q:=r } ar kr v4 v8 br cB cO bn pb pa pk kn hd vf F vk K role by
  refine h.boxed (x':={ dN x 0 0 with Q:=r }) (uZ.setCell (S:=λq=>q=b) (uZ.setCell (S:=λq=>q=b) (uZ.setCell (S:=λq=>q=b) (uZ.setCell (S:=λq=>q=b) (uZ.refl _ w) (p:=⟨b,6,none⟩) rfl _) (p:=⟨b,7,none⟩) rfl _) (p:=⟨b,5,none⟩) rfl _) (p:=⟨b,11,none⟩) rfl _) ((((h.sb.nb.set _ _).set _ _).set _ _).set _ _) rfl rfl rfl ((((h.sb.bx.set6 0).set7 0).set5 0).set11 r) (λk hk=>?_);rw[uC _ (.inr (by omega)),uC _ (.inr (by omega)),uC _ (.inr (by omega)),uC _ (.inr (by omega))])
 have XN:=uU ((((hx.setCell (p:=⟨b,6,none⟩) (show a.heap.size<=b by omega) (iv 0)).setCell (p:=⟨b,7,none⟩) (show a.heap.size<=b by omega) (iv 0)).setCell (p:=⟨b,5,none⟩) (show a.heap.size<=b by omega) (iv 0)).setCell (p:=⟨b,11,none⟩) (show a.heap.size<=b by omega) (iv r));clear h hp er;go_enter Tryz.func143,Tryz.ntmps143;go_wp2_with fail
 all_goals
  first
  | (have e1:(1000000000:Int)=r:=uH ER _ (.inr ⟨rfl,by omega⟩);rw[e1])
  | (have e1:x.Q+1=r:=uH ER _ (.inl ⟨rfl,by omega⟩);rw[e1])
  | (have e1:min (x.Q+1) 1000000000=r:=uH ER _ (by omega);rw[e1])
  refine(b1u 0 b _ (FN.sb.bx.2.2.2.2.2.1) (by omega)).mono ?_;rintro e w2 ⟨rfl,hw2⟩;subst hw2;go_wp2_with fail;go_ret;exact⟨rfl,FN,XN⟩
theorem b9j(c:Cl)(bn i cb co:Nat)(w:World)(m1:w.cell? ⟨bn,i*2+1,none⟩=some (.pointer (some ⟨cb,co,none⟩)))(s:S7 w cb co c):
  Calls Tryz.prog 166 #[ndp bn i] w λe w'=>e=.returned (.bool (tJ c))/\w'=w:=by
 have s3:=s.2.2.2.1;cases q1:(c.U == 1)
 ·have E:=uU (show tJ c=(c.U == 2) by simp [tJ,q1]);go_enter Tryz.func166,Tryz.ntmps166;go_wp2_with fail;go_ret;exact⟨by rw[uH E];rfl,rfl⟩
 ·have E:=uU (show tJ c=true by simp [tJ,q1]);go_enter Tryz.func166,Tryz.ntmps166;go_wp2_with fail;go_ret;exact⟨by rw[uH E];rfl,rfl⟩
theorem SAt.I[Inhabited uQ](h:SAt B w b x ar kr v4 v8 br cB cO bn pb pa pk kn hd vf F vk K role)(hn:Int):
  SAt B (w.setCell ⟨b,6,none⟩ (iv hn)) b { x with I:=hn } ar kr v4 v8 br cB cO bn pb pa pk kn hd vf F vk K role:=by
 refine h.boxed (x':={ x with I:=hn }) (uZ.setCell (S:=λq=>q=b) (uZ.refl _ w) (p:=⟨b,6,none⟩) rfl _) (h.sb.nb.set _ _) rfl rfl rfl (h.sb.bx.set6 hn) (λk hk=>uC _ (.inr (by omega)))
theorem c5j[Inhabited uQ](h:SAt B w b x ar kr v4 v8 br cB cO bn pb pa pk kn hd vf F vk K role)(hp:x.E=1)(he:x.I=x.A.length)(a:World)(ha:a.heap.size<=B)(hx:Ext a w):
  Calls Tryz.prog 328 #[.agg #[.pointer (some ⟨b,0,none⟩)]] w λe w'=>e=.returned (zK (eZ x).E b)/\Hid (SAt B w' b (eZ x) ar kr v4 v8 br cB cO bn pb pa pk kn hd vf F vk K role)/\Ext a w':=by
 have E:=uU (show eZ x=dN x (1+1) 0 by unfold eZ;rw[if_pos he];rfl);have H:=uU h;have HP:=uU hp;have XA:=(Ext.refl w).alloc (.cells #[.pointer (some ⟨b,0,none⟩)] 233);have QA:=uU (a6t x.I b x.A.length kn (some ⟨bn,0,none⟩) _ (XA.keep h.sb.bx.2.2.2.2.2.2.1) (XA.keep h.sb.n13) (by simpa using he));have XA2:=uU XA;have hbw:b<w.heap.size:=h.sb.nb.1;clear h hp he XA;go_enter Tryz.func328,Tryz.ntmps328;go_wp2_with fail;refine QA.mono ?_;rintro e w1 ⟨rfl,x1⟩;have r0:w1.cell? ⟨w.heap.size,0,none⟩=some (.pointer (some ⟨b,0,none⟩)):=x1.keep (by simp [go_sem]);have X1:=uU (XA2.trans x1);go_wp2_with fail;refine(a6v (H.ext X1) 1 HP rfl rfl (by omega) a ha (hx.trans X1)).mono ?_;rintro e w2 ⟨rfl,h2,x2⟩;go_wp2_with fail;go_ret;exact⟨by rw[uH E];rfl,by rw[uH E];exact uH h2,x2⟩
theorem c1z[Inhabited uQ](h:SAt B w b x ar kr v4 v8 br cB cO bn pb pa pk kn hd vf F vk K role)(s:Snd x)(hp:x.E=1)(i:Nat)(hi:x.I=(i:Int))(hin:i<x.A.length)(a:World)(ha:a.heap.size<=B)(hx:Ext a w):
  Calls Tryz.prog 328 #[.agg #[.pointer (some ⟨b,0,none⟩)]] w λe w'=>e=.returned (zK (eZ x).E b)/\Hid (SAt B w' b (eZ x) ar kr v4 v8 br cB cO bn pb pa pk kn hd vf F vk K role)/\Ext a w':=by
 have ei:x.I.toNat=i:=by omega
 have EU:=uU (show eZ x={ (if tJ (x.c i)=true then uW x i else x) with I:=(i:Int)+1 } by unfold eZ;rw[if_neg (by omega),ei,hi]);have H:=uU h;have EP:=uU (show(eZ x).E=1 by rw[uH EU];split;exact((cV x i).2.2.2.2.2.1).trans hp;exact hp);have n8:=s.ok.n8;have XA:=(Ext.refl w).alloc (.cells #[.pointer (some ⟨b,0,none⟩)] 233);have c6:=h.sb.bx.2.2.2.2.2.2.1;rw[hi] at c6;have QA:=uU (a1q b x.A.length kn bn i _ (XA.keep c6) (XA.keep h.sb.n13) hin);have GF:=uU ((a4n s.ok).2 i hin);have XA2:=uU XA;have hbw:b<w.heap.size:=h.sb.nb.1;have lo:=h.sb.lo.1;have HI:=uU hi;clear h hp XA s ei hi c6;go_enter Tryz.func328,Tryz.ntmps328;go_wp2_with fail;refine QA.mono ?_;rintro e w1 ⟨rfl,x1⟩;have r0:w1.cell? ⟨w.heap.size,0,none⟩=some (.pointer (some ⟨b,0,none⟩)):=x1.keep (by simp [go_sem]);have X1:=uU (XA2.trans x1);have H1:=uU (H.ext X1);have QS:=uU (b9j (x.c i) bn i (cB i) (cO i) w1 (H1.sb.nd i hin).2 (H1.rw.s i hin));clear x1 XA2 QA;go_wp2_with fail;refine QS.mono ?_;rintro e w2 ⟨rfl,hw2⟩;subst hw2;cases q:tJ (x.c i)
 ·have E:=uU (show eZ x={ x with I:=(i:Int)+1 } by rw[uH EU,q];rfl);have c6:w2.cell? ⟨b,6,none⟩=some (iv i):=by have:=H1.sb.bx.2.2.2.2.2.2.1;rw[uH HI] at this;exact this
  have f6:=H1.sb.nb.2 6;have hb1:b<w2.heap.size:=uL c6;have hb2:w.heap.size<w2.heap.size:=uL r0;have FN:=uU (H1.I ((i:Int)+1));have XN:=uU ((hx.trans X1).setCell (p:=⟨b,6,none⟩) (show a.heap.size<=b by omega) (iv ((i:Int)+1)));go_wp2_with fail;go_ret;exact⟨by rw[uH EP];rfl,by rw[uH E];exact uH FN,XN⟩
 ·have E:=uU (show eZ x={ uW x i with I:=(i:Int)+1 } by rw[uH EU,q];rfl);go_wp2_with fail;refine(b5n i _ H1 hin GF a ha (hx.trans X1)).mono ?_;rintro e w3 ⟨rfl,h3,x3,fr⟩;have hb2:w.heap.size<w2.heap.size:=uL r0;have hbc:cB i<w.heap.size:=(H.rw.nc i hin).1.1;have r3:w3.cell? ⟨w.heap.size,0,none⟩=some (.pointer (some ⟨b,0,none⟩)):=(World.cell?_of_block (a:=⟨w.heap.size,0,none⟩) (fr w.heap.size hb2 (by omega) (by omega))).trans r0;have c6:w3.cell? ⟨b,6,none⟩=some (iv i):=by have:=h3.sb.bx.2.2.2.2.2.2.1;rw[(cV x i).2.2.2.2.2.2.1,uH HI] at this;exact this
  have f6:=h3.sb.nb.2 6;have hb1:b<w3.heap.size:=uL c6;have hb3:w.heap.size<w3.heap.size:=uL r3;have FN:=uU (h3.I ((i:Int)+1));have XN:=uU (x3.setCell (p:=⟨b,6,none⟩) (show a.heap.size<=b by omega) (iv ((i:Int)+1)));clear r0 fr;go_wp2_with fail;go_ret;exact⟨by rw[uH EP];rfl,by rw[uH E];exact uH FN,XN⟩
structure HNt(w:World)(b:Nat)(x:Hp)(ar:Option Addr)(kr:Nat)(ac:Nat->Option Addr):Prop where
 c3:w.cell? ⟨b,3,none⟩=some (.slice ar x.B.length kr)
 lr:x.B.length<=35184372088832
 R:∀i (hi:i<x.B.length),∃b' o,ar=some ⟨b',o,none⟩/\yQ w b' (o+i*3) x.B[i]
 C:∀i,i<x.A.length->∃b' o,ac i=some ⟨b',o,none⟩/\b7k w b' o (x.c i)
theorem HNt.ext(h:HNt w b x ar kr ac)(e:Ext w w'):HNt w' b x ar kr ac:=
 ⟨e.keep h.c3,h.lr,λi hi=>let ⟨b',o,a,p⟩:=h.R i hi;⟨b',o,a,p.ext e⟩,λi hi=>let ⟨b',o,a,p⟩:=h.C i hi;⟨b',o,a,p.ext e⟩⟩
theorem HNt.cell(h:HNt w b x ar kr ac)(i:Nat)(hi:i<x.A.length):
  ∃b' o ap kp,ac i=some ⟨b',o,none⟩/\CAt w b' o (x.c i) ap kp:=by
 obtain⟨b',o,e,vp,p0,p1,p2,p3,p4,p5,p6,p7,ap,kp,rfl,lp,P⟩:=h.C i hi;exact⟨b',o,ap,kp,e,p0,p1,p2,p3,p4,p5,p6,p7,lp,λk hk=>by obtain⟨b2,o2,e2,q⟩:=P k hk;rw[Cl.p_eq _ _ hk] at q;exact⟨b2,o2,e2,q⟩⟩
structure VNt(w:World)(b:Nat)(x:Hp)(ar:Option Addr)(kr:Nat)(ac:Nat->Option Addr)(an:Option Addr)(kn:Nat):Prop where
 H:HNt w b x ar kr ac
 n13:w.cell? ⟨b,13,none⟩=some (.slice an x.A.length kn)
 N:∀i,i<x.A.length->∃bn on bc oc,an=some ⟨bn,on,none⟩/\ac i=some ⟨bc,oc,none⟩/\w.cell? ⟨bn,on+i*2,none⟩=some (iv i)/\w.cell? ⟨bn,on+i*2+1,none⟩=some (.pointer (some ⟨bc,oc,none⟩))
theorem VNt.ext(h:VNt w b x ar kr ac an kn)(e:Ext w w'):VNt w' b x ar kr ac an kn:=
 ⟨h.H.ext e,e.keep h.n13,λi hi=>let ⟨bn,on,bc,oc,a,a',p,q⟩:=h.N i hi;⟨bn,on,bc,oc,a,a',e.keep p,e.keep q⟩⟩
structure FwAt(w:World)(b:Nat)(x:Hp)(ac:Nat->Option Addr)(an:Option Addr)(kn:Nat):Prop where
 n13:w.cell? ⟨b,13,none⟩=some (.slice an x.A.length kn)
 N:∀i,i<x.A.length->∃bn on bc oc,an=some ⟨bn,on,none⟩/\ac i=some ⟨bc,oc,none⟩/\w.cell? ⟨bn,on+i*2+1,none⟩=some (.pointer (some ⟨bc,oc,none⟩))/\w.cell? ⟨bc,oc,none⟩=some (iv (x.c i).st)/\w.cell? ⟨bc,oc+6,none⟩=some (iv (x.c i).to)
theorem FwAt.ext(h:FwAt w b x ac an kn)(e:Ext w w'):FwAt w' b x ac an kn:=
 ⟨e.keep h.n13,λi hi=>let ⟨bn,on,bc,oc,a,a',p,q,r⟩:=h.N i hi;⟨bn,on,bc,oc,a,a',e.keep p,e.keep q,e.keep r⟩⟩
theorem VNt.f(h:VNt w b x ar kr ac an kn):FwAt w b x ac an kn:=
 ⟨h.n13,λi hi=>by
  obtain⟨bn,on,bc,oc,a,a',p,q⟩:=h.N i hi;obtain⟨b2,o2,ap,kp,e,C⟩:=h.H.cell i hi;rw[a'] at e;cases e;exact⟨bn,on,bc,oc,a,a',q,C.p0,C.p6⟩⟩
def acs(ac:Option Addr)(i:Nat):Option Addr:=ac.map λa=>⟨a.block,a.off+i*8,a.spot⟩
theorem VAt.vn{ac:Option Addr}(h:VAt w b x ar kr ac kc ag kg an kn):VNt w b x ar kr (acs ac) an kn:=
 ⟨⟨h.H.c3,h.H.lr,h.H.R,λi hi=>by
  obtain⟨b',o,e,p⟩:=h.H.C i hi;subst e;exact⟨b',o+i*8,rfl,p⟩⟩,h.n13,λi hi=>by
  obtain⟨bn,on,bc,oc,e1,e2,p,q⟩:=h.N i hi;subst e2;exact⟨bn,on,bc,oc+i*8,e1,rfl,p,q⟩⟩
theorem eQ.r2(h:eQ x 0):R2 x:=by
 unfold eQ at h;rcases h with h | h | h | h | h | h | h | h | h
 ·omega
 ·omega
 ·omega
 ·omega
 ·omega
 ·omega
 ·omega
 ·omega
 ·exact h.2.1
theorem b5r(x:Hp)(w:World){ac:Option Addr}(hR:SlW w (.slice ar x.B.length kr) x.B)(hC:SlC w (.slice ac x.A.length kc) x.A)(hG:SlI w (.slice ag x.D.length kg) x.D)(hcap:a4g w x ac):
  Calls Tryz.prog 65 #[x.v (.slice ar x.B.length kr) (.slice ac x.A.length kc) (.slice ag x.D.length kg)] w λe w'=>Ext w w'/\Hid ((¬eQ x 0/\e=.returned (.tuple #[.pointer none,.bool false]))\/(eQ x 0/\∃b an kn,e=.returned (.tuple #[.pointer (some ⟨b,0,none⟩),.bool true])/\VAt w' b x ar kr ac kc ag kg an kn/\Hid (∃bn on,an=some ⟨bn,on,none⟩))):=by
 have x1:=(Ext.refl w).alloc (.cells #[iv x.M,iv x.K,iv x.born,.slice ar x.B.length kr,.slice ac x.A.length kc,iv x.E,iv x.I,iv x.sub,.slice ag x.D.length kg,iv x.per,iv x.V,iv x.Q,iv x.S] 34);have S1:=uU (SlW.ext x1 hR);have S2:=uU (SlC.ext x1 hC);have S3:=uU (SlI.ext x1 hG);have S4:=uU (hcap.extS hC x1);clear hR hC hG hcap;go_enter Tryz.func65,Tryz.ntmps65;go_wp2_with fail;refine(c9k x _ S1 S2 S3).mono ?_;rintro e w2 ⟨b,rfl,hq,hor⟩;have x2:=x1.trans hq;rcases uH hor with⟨hn,hh⟩ | ⟨hr,an,kn,base,vf,F,hv,hf,han⟩
 ·have HH:=uU hh;clear hor hh;go_wp2_with fail;refine(c5k x b _ HH hn).mono ?_;rintro e w3 ⟨n,rfl,hok,hq3⟩;have x3:=x2.trans hq3;have OK:=uU hok;clear hok;cases t:(n == 0)
  ·have t2:(n != 0)=true:=by simpa using t
   have N:=uU (show ¬eQ x 0 from λh=>by have:=eQ.uniq h OK;simp at t;omega);go_wp2_with fail;go_ret2;exact⟨x3,.inl ⟨N,rfl⟩⟩
  ·exfalso;have h0:eQ x 0:=by have:=uH OK;simp at t;rw[t] at this;exact this
   have h1:eQ x 1:=.inl ⟨hn,rfl⟩;have:=eQ.uniq h0 h1;omega
 ·have HV:=uU hv;have HF:=uU hf;have HC:=uU (S4.extS S2 hq);have HR:=uU hr;clear hor hv hf hr;go_wp2_with fail;refine(c2a x b _ HV HF HC HR).mono ?_;rintro e w3 ⟨n,rfl,hok,hq3⟩;have x3:=x2.trans hq3;have OK:=uU hok;have V3:=uU (HV.ext hq3);clear hok;cases t:(n == 0)
  ·have t2:(n != 0)=true:=by simpa using t
   have N:=uU (show ¬eQ x 0 from λh=>by have:=eQ.uniq h OK;simp at t;omega);go_wp2_with fail;go_ret2;exact⟨x3,.inl ⟨N,rfl⟩⟩
  ·have t2:(n != 0)=false:=by simpa using t
   have Y:=uU (show eQ x 0 by have:=uH OK;simp at t;rw[t] at this;exact this);go_wp2_with fail;go_ret2;exact⟨x3,.inr ⟨Y,b,an,kn,rfl,V3,han⟩⟩
theorem a6x(y:Wd)(b:Nat)(w:World)(k2:(y.k == 2)=false):
  Calls Tryz.prog 123 #[.pointer (some ⟨b,0,none⟩),y.v] w λe w'=>e=.returned (.pointer none)/\Ext w w':=by
 go_enter Tryz.func123,Tryz.ntmps123;go_wp2_with fail;refine(a7j y b _ k2).mono ?_;rintro e w1 ⟨rfl,hq⟩;go_wp2_with fail;go_ret;exact⟨rfl,Ext.trans ((Ext.refl w).alloc _) hq⟩
def eY(x:Hp)(i:Nat):Nat:=if ((x.c i).st == 2)=true then (x.c i).to.toNat else i
theorem b9k(x:Hp)(y:Wd)(b i:Nat)(w:World)(h:FwAt w b x ac an kn)(r2:R2 x)(k2:(y.k == 2)=true)(hi:i<x.A.length)(bn on:Nat)(ha:an=some ⟨bn,on,none⟩):
  Calls Tryz.prog 123 #[.pointer (some ⟨b,0,none⟩),.agg #[iv y.k,iv y.n,iv i]] w λe w'=>e=.returned (.pointer (some ⟨bn,on+eY x i*2,none⟩))/\Ext w w':=by
 subst ha;have x1:=(Ext.refl w).alloc (.cells #[iv y.k,iv y.n,iv i] 152);cases ts:((x.c i).st == 2)
 ·have L:=uU (show eY x i=i by simp only [eY,ts];simp);obtain⟨bn',on',bc,oc,e1,_,m1,p0,_⟩:=h.N i hi;cases e1;have n13:=h.n13;clear h r2;go_enter Tryz.func123,Tryz.ntmps123;go_wp2_with fail;refine(a2v y b x.A.length bn on kn i _ k2 (x1.keep n13) hi).mono ?_;rintro e w1 ⟨rfl,hq⟩;have x2:=x1.trans hq;have m1':=x2.keep m1;have p0':=x2.keep p0;clear m1 p0 n13;go_wp2_with fail;go_ret;exact⟨by rw[uH L];rfl,x2⟩
 ·have hs:(x.c i).st=2:=by simpa using ts
  obtain⟨t,ht⟩:∃t:Nat,(x.c i).to=(t:Int):=⟨(x.c i).to.toNat,by
   have:=r2.1 i hi;unfold cQ eX at this;omega⟩
  have hti:t<i:=by
   have:=r2.1 i hi;unfold cQ eX at this;omega
  have L:=uU (show eY x i=t by simp only [eY,ts];simp [ht]);obtain⟨bn',on',bc,oc,e1,_,m1,p0,p6⟩:=h.N i hi;cases e1;rw[ht] at p6;have n13:=h.n13;have t0:(0:Int)<=(t:Int):=by omega
  have t1:(t:Int)<(x.A.length:Int):=by omega
  clear h r2 ht hs;go_enter Tryz.func123,Tryz.ntmps123;go_wp2_with fail;refine(a2v y b x.A.length bn on kn i _ k2 (x1.keep n13) hi).mono ?_;rintro e w1 ⟨rfl,hq⟩;have x2:=x1.trans hq;have m1':=x2.keep m1;have p0':=x2.keep p0;have p6':=x2.keep p6;have n13':=x2.keep n13;clear m1 p0 n13 p6;go_wp2_with fail;go_quiet (fail);go_wp2_with fail;go_ret;exact⟨by rw[uH L];rfl,x2.drewN _⟩
theorem c9p(r2:R2 x)(i:Nat)(hi:i<x.A.length):eY x i<x.A.length:=by
 unfold eY
 split
 ·rename_i h;have hs:(x.c i).st=2:=by simpa using h
  have:=r2.1 i hi;unfold cQ eX at this;omega
 ·exact hi
theorem a9w[Inhabited uQ](h:SAt B w b x ar kr v4 v8 br cB cO bn pb pa pk kn hd vf F vk K role)(r2:R2 x)(i:Nat)(hi:i<x.A.length):
  Calls Tryz.prog 123 #[.pointer (some ⟨b,0,none⟩),.agg #[iv 2,iv 0,iv i]] w λe w'=>e=.returned (ndp bn (eY x i))/\Ext w w':=by
 have x1:=(Ext.refl w).alloc (.cells #[iv 2,iv 0,iv i] 152);have n13:=h.sb.n13;obtain⟨m0,m1⟩:=h.sb.nd i hi;obtain⟨p0,_,_,_,_,_,p6⟩:=h.rw.s i hi;have QF:=uU (λW (e:Ext w W)=>a2v ⟨2,0,(i:Int)⟩ b x.A.length bn 0 kn i W (by simp) (e.keep n13) hi);cases ts:((x.c i).st == 2)
 ·have L:=uU (show eY x i=i by simp only [eY,ts];simp);clear h r2 m0;go_enter Tryz.func123,Tryz.ntmps123;go_wp2_with fail;refine(QF _ x1).mono ?_;rintro e w1 ⟨rfl,hq⟩;rw[Nat.zero_add];have x2:=x1.trans hq;have m1':=x2.keep m1;have p0':=x2.keep p0;clear m1 p0 n13 p6;go_wp2_with fail;go_ret;exact⟨by rw[uH L];rfl,x2⟩
 ·have hs:(x.c i).st=2:=by simpa using ts
  obtain⟨t,ht⟩:∃t:Nat,(x.c i).to=(t:Int):=⟨(x.c i).to.toNat,by
   have:=r2.1 i hi;unfold cQ eX at this;omega⟩
  have hti:t<i:=by
   have:=r2.1 i hi;unfold cQ eX at this;omega
  have L:=uU (show eY x i=t by simp only [eY,ts];simp [ht]);rw[ht] at p6;have t0:(0:Int)<=(t:Int):=by omega
  have t1:(t:Int)<(x.A.length:Int):=by omega
  clear h r2 m0 ht hs;go_enter Tryz.func123,Tryz.ntmps123;go_wp2_with fail;refine(QF _ x1).mono ?_;rintro e w1 ⟨rfl,hq⟩;rw[Nat.zero_add];have x2:=x1.trans hq;have m1':=x2.keep m1;have p0':=x2.keep p0;have p6':=x2.keep p6;have d13:=x2.keep n13;clear m1 p0 n13 p6;go_wp2_with fail;go_quiet (fail);go_wp2_with fail;go_ret;exact⟨by rw[uH L];rfl,x2.drewN _⟩
theorem b5s(bn o:Nat)(pl:Int)(w:World)(m0:w.cell? ⟨bn,o,none⟩=some (iv pl)):
  Calls Tryz.prog 319 #[.pointer (some ⟨bn,o,none⟩)] w λe w'=>e=.returned (.agg #[iv 2,iv 0,iv pl])/\Ext w w':=by
 have hb:bn<w.heap.size:=uL m0;go_enter Tryz.func319,Tryz.ntmps319;go_wp2_with fail;refine bodyPost_ret (v:=.agg #[iv 2,iv 0,iv pl]) (by simp [results,Tryz.results319,go_sem]) rfl ⟨rfl,?_⟩
 repeat (first | refine Ext.setCell ?_ (Nat.le_refl _) _ | exact(Ext.refl w).alloc _)
theorem c9q(y:Wd)(b:Nat)(w:World)(k2:(y.k == 2)=false):
  Calls Tryz.prog 324 #[.pointer (some ⟨b,0,none⟩),y.v] w λe w'=>e=.returned y.v/\Ext w w':=by
 have x1:=((Ext.refl w).alloc (.cells #[iv y.k,iv y.n,iv y.a] 152)).alloc (.cells #[iv 0,iv 0,iv 0] 152);go_enter Tryz.func324,Tryz.ntmps324;go_wp2_with fail;refine(a6x y b _ k2).mono ?_;rintro e w1 ⟨rfl,hq⟩;have x2:=x1.trans hq;have z1:w.heap.size+1<w1.heap.size:=by have:=hq.size;simp at this;omega
 have z0:w.heap.size<w1.heap.size:=by omega
 have hc1:=(cD hq).1;have hf1:=(cD hq).2;have v0:=hq.keep (b:=w.heap.size) (o:=0) (v:=iv y.k) (by simp [go_sem]);have v1:=hq.keep (b:=w.heap.size) (o:=1) (v:=iv y.n) (by simp [go_sem]);have v2:=hq.keep (b:=w.heap.size) (o:=2) (v:=iv y.a) (by simp [go_sem]);have r0:=hq.keep (b:=w.heap.size+1) (o:=0) (v:=iv 0) (by simp [go_sem]);have r1:=hq.keep (b:=w.heap.size+1) (o:=1) (v:=iv 0) (by simp [go_sem]);have r2:=hq.keep (b:=w.heap.size+1) (o:=2) (v:=iv 0) (by simp [go_sem]);clear hq;go_wp2_with fail;refine bodyPost_ret (v:=y.v) (by simp [results,Tryz.results324,go_sem,r0,r1,r2]) rfl ⟨rfl,?_⟩
 repeat (first | refine Ext.setCell ?_ (by show w.heap.size<=w.heap.size+1;omega) _ | exact x2)
theorem sres_at[Inhabited uQ](h:SAt B w b x ar kr v4 v8 br cB cO bn pb pa pk kn hd vf F vk K role)(q2:R2 x)(i:Nat)(hi:i<x.A.length):
  Calls Tryz.prog 324 #[.pointer (some ⟨b,0,none⟩),.agg #[iv 2,iv 0,iv i]] w λe w'=>e=.returned (.agg #[iv 2,iv 0,iv (eY x i)])/\Ext w w':=by
 have x1:=((Ext.refl w).alloc (.cells #[iv 2,iv 0,iv i] 152)).alloc (.cells #[iv 0,iv 0,iv 0] 152);have HV:=uU h;have M0:=uU (h.sb.nd (eY x i) (c9p q2 i hi)).1;clear h;go_enter Tryz.func324,Tryz.ntmps324;go_wp2_with fail;refine(a9w (HV.ext x1) q2 i hi).mono ?_;rintro e w1 ⟨rfl,hq⟩;have x2:=x1.trans hq;have QH:=uU hq;clear hq;go_wp2_with fail;refine(b5s bn (eY x i*2) (eY x i) _ (x2.keep M0)).mono ?_;rintro e w2 ⟨rfl,hq2⟩;have x3:=x2.trans hq2;have hq:=QH.trans hq2;have z1:w.heap.size+1<w2.heap.size:=by have:=hq.size;simp at this;omega
 have hc1:=(cD hq).1;have hf1:=(cD hq).2;have r0:=hq.keep (b:=w.heap.size+1) (o:=0) (v:=iv 0) (by simp [go_sem]);have r1:=hq.keep (b:=w.heap.size+1) (o:=1) (v:=iv 0) (by simp [go_sem]);have r2:=hq.keep (b:=w.heap.size+1) (o:=2) (v:=iv 0) (by simp [go_sem]);clear hq hq2;go_wp2_with fail;refine bodyPost_ret (v:=.agg #[iv 2,iv 0,iv (eY x i)]) (by simp [results,Tryz.results324,go_sem,r0,r1,r2]) rfl ⟨rfl,?_⟩
 repeat (first | refine Ext.setCell ?_ (by show w.heap.size<=w.heap.size+1;omega) _ | exact x3)
theorem b9m[Inhabited uQ](h:SAt B w b x ar kr v4 v8 br cB cO bn pb pa pk kn hd vf F vk K role)(q2:R2 x)(y:Wd)(hy:uE y x.A.length):
  Calls Tryz.prog 324 #[.pointer (some ⟨b,0,none⟩),y.v] w λe w'=>e=.returned (qX x y).v/\Ext w w':=by
 cases q:(y.k == 2)
 ·have e:qX x y=y:=by
   unfold qX;rw[if_neg];intro h;simp [h.1] at q
  rw[e];exact c9q y b w q
 ·have hk:y.k=2:=by simpa using q
  obtain⟨k,n,a⟩:=y;simp only at hk;subst hk;unfold uE at hy;simp only at hy;obtain⟨i,rfl⟩:∃i:Nat,a=(i:Int):=⟨a.toNat,by omega⟩;obtain rfl:n=0:=by omega
  have hi:i<x.A.length:=by omega
  have ei:((i:Int)).toNat=i:=by omega
  have e:qX x ⟨2,0,i⟩=⟨2,0,eY x i⟩:=by
   unfold qX eY;simp only [ei];by_cases h2:(x.c i).st=2
   ·have ht:0<=(x.c i).to:=by
     have:=q2.1 i hi;unfold cQ eX at this;omega
    have et:(((x.c i).to.toNat:Nat):Int)=(x.c i).to:=by omega
    rw[if_pos ⟨trivial,h2⟩,if_pos (by simpa using h2),et]
   ·rw[if_neg (λh=>h2 h.2),if_neg (by simpa using h2)]
  rw[e];exact sres_at h q2 i hi
theorem SAt.move[Inhabited uQ](h:SAt B w b x ar kr v4 v8 br cB cO bn pb pa pk kn hd vf F vk K role)(t f:Nat)(htf:t≠f)(ht:t<x.A.length)(hf:f<x.A.length)(o:uZ (λq=>∃j,j<x.A.length/\q=cB j) w w')(nf:∀j,j<x.A.length->Nf1 (cB j) w')(hs:S7 w' (cB t) (cO t) (x.c f))(h7:w'.cell? ⟨cB t,cO t+7,none⟩=some (.slice (pa f) (x.c f).F.length (pk f)))(gs:S7 w' (cB f) (cO f) (mvC t))(g7:w'.cell? ⟨cB f,cO f+7,none⟩=some (.slice none 0 0))
  (ho:∀q,q<x.A.length->q≠t->q≠f->∀k,k<8->w'.cell? ⟨cB q,cO q+k,none⟩=w.cell? ⟨cB q,cO q+k,none⟩) :
  ∃pb' pa' pk' role',SAt B w' b { x with A:=(x.A.set t (x.c f)).set f (mvC t) } ar kr v4 v8 br cB cO bn pb' pa' pk' kn hd vf F vk K role':=by
 have hc:∀q,({ x with A:=(x.A.set t (x.c f)).set f (mvC t) }:Hp).c q=if q=f then mvC t else if q=t then x.c f else x.c q:=λq=>by
  have h1:=Hp.c_set { x with A:=x.A.set t (x.c f) } f (mvC t) (by simpa using hf) q;have h2:=Hp.c_set x t (x.c f) ht q;have e:({ x with A:=(x.A.set t (x.c f)).set f (mvC t) }:Hp)={ ({ x with A:=x.A.set t (x.c f) }:Hp) with A:=({ x with A:=x.A.set t (x.c f) }:Hp).A.set f (mvC t) }:=rfl;rw[e,h1];by_cases e1:q=f
  ·rw[if_pos e1,if_pos e1]
  ·rw[if_neg e1,if_neg e1];exact h2
 refine⟨_,_,_,_,h.turned ((x.A.set t (x.c f)).set f (mvC t)) (by simp) (λq=>if q=t then f else q) (λq=>if q=f then none else if q=t then pa f else pa q) (λq=>if q=f then 0 else if q=t then pk f else pk q) (λd=>if 0<pk f/\d=pb f then 6+t else role d) o nf (λq hq=>?_) (λq hq=>?_) (λq hq=>?_) (λq hq hl=>?_) (λd hb=>?_)⟩
 ·have hq':q<x.A.length:=by simpa using hq
  rw[hc q];by_cases e1:q=f
  ·rw[if_pos e1];exact Nat.zero_le _
  ·simp only [if_neg e1];by_cases e2:q=t
   ·simp only [if_pos e2];exact h.rw.kp f hf
   ·simp only [if_neg e2];exact h.rw.kp q hq'
 ·rw[hc q];by_cases e1:q=f
  ·subst e1;rw[if_pos rfl];exact gs
  ·rw[if_neg e1];by_cases e2:q=t
   ·subst e2;rw[if_pos rfl];exact hs
   ·rw[if_neg e2];exact(h.rw.s q hq).of λj hj=>ho q hq e2 e1 j (by omega)
 ·rw[hc q];by_cases e1:q=f
  ·subst e1;simp only [if_true];exact g7
  ·simp only [if_neg e1];by_cases e2:q=t
   ·subst e2;simp only [if_true];exact h7
   ·simp only [if_neg e2];rw[ho q hq e2 e1 7 (by omega)];exact h.rw.p7 q hq
 ·rw[hc q];by_cases e1:q=f
  ·rw[if_pos e1] at hl;omega
  ·rw[if_neg e1] at hl;simp only [if_neg e1];by_cases e2:q=t
   ·rw[if_pos e2] at hl;simp only [if_pos e2];exact⟨⟨hf,trivial⟩,trivial,trivial,by rw[if_pos ⟨hl,trivial⟩,e2]⟩
   ·rw[if_neg e2] at hl;simp only [if_neg e2];refine⟨⟨hq,trivial⟩,trivial,trivial,?_⟩;rw[if_neg (λe=>?_)]
    ·exact h.sp.p q hq hl
    ·have r1:=h.sp.p q hq hl;have r2:=h.sp.p f hf e.1;rw[e.2] at r1;omega
 ·by_cases e:0<pk f/\d=pb f
  ·have r2:=h.sp.p f hf e.1;rw[<-e.2] at r2;omega
  ·rw[if_neg e]
theorem b9n[Inhabited uQ](h:SAt B w b x ar kr v4 v8 br cB cO bn pb pa pk kn hd vf F vk K role)(t f:Nat)(htf:t≠f)(ht:t<x.A.length)(hf:f<x.A.length):
  ∃pb' pa' pk' role',SAt B (zZ (qE w (cB t) (cO t) (x.c f) (.slice (pa f) (x.c f).F.length (pk f))) (cB f) (cO f) 2 t) b (b1n x t f) ar kr v4 v8 br cB cO bn pb' pa' pk' kn hd vf F vk K role':=by
 obtain⟨k1,k2⟩:=a8h w (cB t) (cO t) (x.c f) (x.c t) (.slice (pa f) (x.c f).F.length (pk f)) _ (h.rw.s t ht) (h.rw.p7 t ht);have o1:=a3a w (cB t) (cO t) (x.c f) (.slice (pa f) (x.c f).F.length (pk f));have y1:=a0h w (cB t) (cO t) (x.c f) (.slice (pa f) (x.c f).F.length (pk f));have far1:∀q,q<x.A.length->q≠t->∀k,k<8->(qE w (cB t) (cO t) (x.c f) (.slice (pa f) (x.c f).F.length (pk f))).cell? ⟨cB q,cO q+k,none⟩=w.cell? ⟨cB q,cO q+k,none⟩:=λq hq e k hk=>h.rw.far8 ht hq e (Nat.le_refl _) y1 o1 k hk
 have s2:S7 (qE w (cB t) (cO t) (x.c f) (.slice (pa f) (x.c f).F.length (pk f))) (cB f) (cO f) (x.c f):=(h.rw.s f hf).of λj hj=>far1 f hf (λe=>htf e.symm) j (by omega)
 have s7:=(far1 f hf (λe=>htf e.symm) 7 (by omega)).trans (h.rw.p7 f hf);obtain⟨m1,m2⟩:=a4p (qE w (cB t) (cO t) (x.c f) (.slice (pa f) (x.c f).F.length (pk f))) (cB f) (cO f) 2 t _ _ s2 s7;have o2:=a3x (qE w (cB t) (cO t) (x.c f) (.slice (pa f) (x.c f).F.length (pk f))) (cB f) (cO f) 2 t;have y2:=a0g (qE w (cB t) (cO t) (x.c f) (.slice (pa f) (x.c f).F.length (pk f))) (cB f) (cO f) 2 t;have far2:∀q,q<x.A.length->q≠f->∀k,k<8->(zZ (qE w (cB t) (cO t) (x.c f) (.slice (pa f) (x.c f).F.length (pk f))) (cB f) (cO f) 2 t).cell? ⟨cB q,cO q+k,none⟩=(qE w (cB t) (cO t) (x.c f) (.slice (pa f) (x.c f).F.length (pk f))).cell? ⟨cB q,cO q+k,none⟩:=λq hq e k hk=>h.rw.far8 hf hq e y1.size y2 o2 k hk
 refine h.move t f htf ht hf ((y1.mono (λq e=>⟨t,ht,e⟩)).trans (y2.mono (λq e=>⟨f,hf,e⟩))) (λq hq=>a6s (a6s (h.rw.nc q hq).1 (a4r (h.rw.nc t ht).1 _ _ _) y1) (a9j (a6s (h.rw.nc f hf).1 (a4r (h.rw.nc t ht).1 _ _ _) y1) _ _ _) y2) ?_ ?_ m1 m2 (λq hq h1 h2 k hk=>?_)
 ·exact k1.of λj hj=>far2 t ht htf j (by omega)
 ·rw[far2 t ht htf 7 (by omega)];exact k2
 ·rw[far2 q hq h2 k hk,far1 q hq h1 k hk]
def rgR(x:Hp)(t f j:Nat):Hp:={ x with B:=(x.B.take j).map (mvW t f)++x.B.drop j }
theorem c9r(x:Hp)(t f j:Nat)(hj:j<x.B.length):∃h:j<(rgR x t f j).B.length,(rgR x t f j).B[j]=x.B[j]:=by
 have hl:j<(rgR x t f j).B.length:=by simp [rgR];omega
 refine⟨hl,?_⟩;simp only [rgR];rw[List.getElem_append_right (by simp;omega)];simp [Nat.min_eq_left (Nat.le_of_lt hj)]
theorem b9o(x:Hp)(t f j:Nat)(hj:j<x.B.length):({ rgR x t f j with B:=(rgR x t f j).B.set j (mvW t f x.B[j]) }:Hp)=rgR x t f (j+1):=by
 have:(rgR x t f j).B.set j (mvW t f x.B[j])=(rgR x t f (j+1)).B:=by
  simp only [rgR];rw[List.set_append_right _ _ (by simp;omega),List.take_succ_eq_append_getElem hj,List.map_append];simp only [List.length_map,List.length_take,Nat.min_eq_left (Nat.le_of_lt hj),Nat.sub_self];have hd:=List.drop_eq_getElem_cons hj;rw[hd];simp only [List.set_cons_zero,List.map_cons,List.map_nil,List.append_assoc,List.singleton_append]
 rw[this];rfl
theorem c9s(x:Hp)(t f j:Nat)(hj:j<x.B.length)(h:mvW t f x.B[j]=x.B[j]):rgR x t f (j+1)=rgR x t f j:=by
 rw[<-b9o x t f j hj,h];obtain⟨hl,e⟩:=c9r x t f j hj;rw[<-e];simp
theorem c9t(x:Hp)(t f:Nat):rgR x t f 0=x:=by simp [rgR]
theorem rgR_all(x:Hp)(t f:Nat):b1n (rgR x t f x.B.length) t f=eU x t f:=by simp [rgR,b1n,eU,Hp.c]
theorem ptr_nil(bn o:Nat)(w:World):(binOp .eql 126 (.pointer none) (.pointer (some ⟨bn,o,none⟩))).run Tryz.prog w=.ok (.bool false) w:=by kernel_rfl
theorem b9p(w:World)(bn p q:Nat):(sameAddr ⟨bn,p,none⟩ ⟨bn,q,none⟩).run P w=.ok (p == q) w:=by
 have:((⟨bn,p,none⟩:Addr) == ⟨bn,q,none⟩)=(p == q):=by
  rw[Bool.eq_iff_iff];simp
 simp [sameAddr,this]
theorem c9u(w:World)(d:Nat)(t e:TypeId)(i:TypeInfo)(ht:P.underlying t=some (.pointer e))(hi:P.info? e=some i)(hs:i.size≠0)(bn p q:Nat):
  (Op.equalIn (d+1) t (.pointer (some ⟨bn,p,none⟩)) (.pointer (some ⟨bn,q,none⟩))).run P w=.ok (p == q) w:=by
 simp [Op.equalIn,run_underlying ht,sizeOf,typeInfo,hi,hs,b9p]
theorem c5n:(Tryz.prog.info? 124).map (λi=>i.size)=some 2:=by kernel_rfl
theorem c9v(bn p q:Nat)(w:World):(binOp .eql 126 (.pointer (some ⟨bn,p,none⟩)) (.pointer (some ⟨bn,q,none⟩))).run Tryz.prog w=.ok (.bool (p == q)) w:=by
 obtain⟨i,hi,hs⟩:∃i,Tryz.prog.info? 124=some i/\i.size=2:=by
  have:=c5n;cases h:Tryz.prog.info? 124 with
  | none=>rw[h] at this;simp at this
  | some i=>rw[h] at this;simp at this;exact⟨i,rfl,this⟩
 have he:(Op.equalIn 10000 126 (.pointer (some ⟨bn,p,none⟩)) (.pointer (some ⟨bn,q,none⟩))).run Tryz.prog w=.ok (p == q) w:=by
  exact c9u w 9999 126 124 i Tryz.underlying126 hi (by omega) bn p q
 simp only [binOp];simp [Op.equal,Op.maxDepth,he]
theorem ptr_no(bn p q:Nat)(w:World)(h:¬p=q):(binOp .eql 126 (.pointer (some ⟨bn,p,none⟩)) (.pointer (some ⟨bn,q,none⟩))).run Tryz.prog w=.ok (.bool false) w:=by
 rw[c9v,beq_eq_false_iff_ne.2 h]
theorem ptr_yes(bn p:Nat)(w:World):(binOp .eql 126 (.pointer (some ⟨bn,p,none⟩)) (.pointer (some ⟨bn,p,none⟩))).run Tryz.prog w=.ok (.bool true) w:=by
 rw[c9v];simp
end Go.Proofs.YtddkhnclmeikfaaGreat
