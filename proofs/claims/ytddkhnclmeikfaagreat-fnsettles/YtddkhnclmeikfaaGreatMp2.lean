import Derived.Test.YtddkhnclmeikfaaGreatLd
import Derived.LaidEql
import Derived.Laws.Pointers
import Derived.MapKept
set_option maxRecDepth 100000
set_option maxHeartbeats 4000000
namespace Go.Proofs.YtddkhnclmeikfaaGreat
open Go.RowKit
attribute [local go_sem ↓] Go.wp_at_zero Go.wp_at_succ
variable{x z:Hp}{P:Program}{w w':World}{bn r kr kc kg on B g br bc i:Nat}{ar ac ag:Option Addr}{Q:List Nat}{pb pk role:Nat->Nat}{pa:Nat->Option Addr}{mt t e et:TypeId}
theorem b3e[Inhabited uZ](y:Wd)(w:World)(h:GAt B w g x ar kr ac kc (.slice ag x.gray.length kg) br bc pb pa pk role)(hy:y.k=2->0<=y.a/\y.a<x.cells.length)(n2:x.cells.length<=8000)(n4:x.gray.length<=8000)(a:World)(ha:a.heap.size<=B)(hx:Ext a w)(hB:B<=w.heap.size):
  Calls Tryz.prog 232 #[.pointer (some ⟨g,0,none⟩),y.v] w λe w'=>e=.returned (.bool (yE x y))/\Hid (∃ag' kg' role',GAt B w' g (a5o x y) ar kr ac kc (.slice ag' (a5o x y).gray.length kg') br bc pb pa pk role')/\Ext a w'/\Hid (∀q,q<w.heap.size->q≠g->q≠bc->(∀b o n,ag=some ⟨b,o,n⟩->b≠q)->w'.heap[q]?=w.heap[q]?):=by
 obtain⟨w1,hw1⟩:∃W,W=w.alloc (.cells #[iv y.k,iv y.n,iv y.a] 152):=⟨_,rfl⟩;have xa:Ext w w1:=by rw[hw1];exact(Ext.refl w).alloc _
 have FR1:=uU (show ∀n q,q<w.heap.size->(w1.drewN n).heap[q]?=w.heap[q]? from λn q hq=>(xa.trans ((Ext.refl w1).drewN n)).block q hq);have H:=uU (h.ext xa);have hgw:g<w.heap.size:=uL h.bx.1;have X1:=uU (hx.trans xa);have d5:=H.bx.2.2.2.2.2.1;have y0:w1.cell? ⟨w.heap.size,0,none⟩=some (iv y.k):=by rw[hw1];simp [go_sem]
 have y2:w1.cell? ⟨w.heap.size,2,none⟩=some (iv y.a):=by rw[hw1];simp [go_sem]
 have hw1s:w.heap.size<w1.heap.size:=uL y0;have MK:=uU (λn r (hr:mkB x=r)=>show Calls Tryz.prog 250 #[.pointer (some ⟨g,0,none⟩)] (w1.drewN n) (λe w'=>e=.returned (.bool r)/\w'=w1.drewN n) from hr ▸ a8d x g (w1.drewN n) (((Ext.refl w1).drewN n).keep d5));cases q1:mkB x
 ·have E:=uU (show yE x y=false/\a5o x y=x by simp [a5o,yE,q1]);clear h d5;go_enter Tryz.func232,Tryz.ntmps232;go_wp2_with fail;rw[<-hw1];clear hw1;go_quiet ((go_at_call 250;exact Calls.quiet_of_same (MK _ _ q1)));go_wp2_with fail;go_ret;exact⟨by rw[E.1];rfl,by rw[E.2];exact⟨_,_,_,H.ext ((Ext.refl w1).drewN _)⟩,X1.drewN _,λq hq _ _ _=>uH FR1 _ q hq⟩
 ·cases q2:(y.k == 2)
  ·have E:=uU (show yE x y=false/\a5o x y=x by simp [a5o,yE,q2]);have q2n:(y.k != 2)=true:=by simpa using q2
   clear h d5;go_enter Tryz.func232,Tryz.ntmps232;go_wp2_with fail;rw[<-hw1];clear hw1;go_quiet ((go_at_call 250;exact Calls.quiet_of_same (MK _ _ q1)));go_wp2_with fail;go_ret;exact⟨by rw[E.1];rfl,by rw[E.2];exact⟨_,_,_,H.ext ((Ext.refl w1).drewN _)⟩,X1.drewN _,λq hq _ _ _=>uH FR1 _ q hq⟩
  ·have q2n:(y.k != 2)=false:=by simpa using q2
   obtain⟨i,hi⟩:∃i:Nat,y.a=(i:Int):=⟨y.a.toNat,by have:=(hy (by simpa using q2)).1;omega⟩;have hin:i<x.cells.length:=by have:=(hy (by simpa using q2)).2;omega
   have hn:0<x.cells.length:=by omega
   have hi2:y.a.toNat=i:=by omega
   rw[hi] at y2;have d4:=H.bx.2.2.2.2.1;rw[H.hc hn] at d4;have s5:=(H.rw.s i hin).2.2.2.2.2.1;have f5:=(H.rw.nc hn).1.2 (i*8+5);have hbc:bc<w1.heap.size:=uL s5;have hbcw:bc<w.heap.size:=(h.rw.nc hn).1.1;have i0:(0:Int)<=(i:Int):=by omega
   have i1:(i:Int)<(x.cells.length:Int):=by omega
   cases q3:((x.c i).color == 0)
   ·have E:=uU (show yE x y=false/\a5o x y=x by simp [a5o,yE,hi2,q3]);have q3n:((x.c i).color != 0)=true:=by simpa using q3
    clear h d5 hi hi2;go_enter Tryz.func232,Tryz.ntmps232;go_wp2_with fail;rw[<-hw1];clear hw1;go_quiet ((go_at_call 250;exact Calls.quiet_of_same (MK _ _ q1)));go_wp2_with fail;go_ret;exact⟨by rw[E.1];rfl,by rw[E.2];exact⟨_,_,_,H.ext ((Ext.refl w1).drewN _)⟩,X1.drewN _,λq hq _ _ _=>uH FR1 _ q hq⟩
   ·have q3n:((x.c i).color != 0)=false:=by simpa using q3
    have E:=uU (show yE x y=true/\a5o x y={ x with cells:=x.cells.set i (a2j (x.c i)),gray:=x.gray++[(i:Int)] } by
     have hb:yE x y=true:=by simp [yE,hi2,q1,q2,q3]
     refine⟨hb,?_⟩;unfold a5o;rw[if_pos hb,hi2,hi])
    clear h d5 hi hi2;go_enter Tryz.func232,Tryz.ntmps232;go_wp2_with fail;rw[<-hw1];clear hw1;go_quiet ((go_at_call 250;exact Calls.quiet_of_same (MK _ _ q1)));go_wp2_with fail
    go_region
    all_goals
     go_wp2_with fail;obtain⟨w2,hw2⟩:∃W,W=(w1.drewN (nq+1)).setCell ⟨bc,i*8+5,none⟩ (.int .i64 1):=⟨_,rfl⟩;have HD:=uU (H.ext ((Ext.refl w1).drewN (nq+1)))
     have G2:=uU (show GAt B w2 g { x with cells:=x.cells.set i (a2j (x.c i)) } ar kr ac kc (.slice ag x.gray.length kg) br bc pb pa pk role by
      rw[hw2];refine HD.setc hin rfl (uX.setCell (S:=λq=>q=bc) (uX.refl _ (w1.drewN (nq+1))) (p:=⟨bc,i*8+5,none⟩) rfl _) ?_ (λk hk=>uC _ (.inr (by omega))) ((HD.rw.nc hn).1.set _ _);obtain⟨a0,a1,a2,a3,a4,a5,a6⟩:=HD.rw.s i hin;refine⟨?_,?_,?_,?_,?_,World.cell?_setCell_same _ _ _ a5,?_⟩
      ·rw[uC _ (.inr (by omega))];exact a0
      ·rw[uC _ (.inr (by omega))];exact a1
      ·rw[uC _ (.inr (by omega))];exact a2
      ·rw[uC _ (.inr (by omega))];exact a3
      ·rw[uC _ (.inr (by omega))];exact a4
      ·rw[uC _ (.inr (by omega))];exact a6)
     have X2:Ext a w2:=by rw[hw2];exact(X1.drewN _).setCell (show a.heap.size<=bc from Nat.le_trans ha (H.rw.nc hn).2) _
     have z2:w2.cell? ⟨w.heap.size,2,none⟩=some (iv i):=by
      rw[hw2,uC _ (.inl (by omega))];exact((Ext.refl w1).drewN (nq+1)).keep y2
     have c8:=G2.bx.2.2.2.2.2.2.2.2.1;have f8:=G2.nf.2 8;have hg2:g<w2.heap.size:=uL c8;have hB2:B<=w2.heap.size:=by have h1:w2.heap.size=w1.heap.size:=(by rw[hw2];simp [World.setCell]);omega
     have ng1:¬g=w.heap.size:=by omega
     have ng2:¬w.heap.size=g:=by omega
     obtain⟨ii,hii,hi0,hi1,hi2⟩:=info_parts b2n;have FR2:=uU (show ∀q,q<w.heap.size->q≠bc->w2.heap[q]?=w.heap[q]?/\q<w2.heap.size from λq hq hne=>⟨by rw[hw2,Below.heap_setCell _ _ _ _ hne];exact FR1 _ q hq,by have h1:w2.heap.size=w1.heap.size:=(by rw[hw2];simp [World.setCell]);omega⟩);rw[<-hw2];clear hw2 HD;have GRX:=uU (show ∀W,Ext w2 W->Grw W B (.slice ag x.gray.length kg) x.gray from λW e=>G2.gr.block (λq hq=>e.block q (G2.gr.lt q hq).2));go_region_law (refine c4m _ rfl _ _ 32 rfl ii (iv 0) B (.slice ag x.gray.length kg) x.gray Tryz.underlying32 hii hi0 hi1 hi2 rfl (by first | rfl | simp [Act.eval,Act.put]) (by first | exact GRX _ ((Ext.refl w2).alloc _) | exact GRX _ ((Ext.refl w2).alloc _).drew | exact GRX _ ((Ext.refl w2).drew.alloc _)) _ 1 i (by first | rfl | simp [Act.eval,Act.put];rfl) (by simp [go_sem]) (by omega) (by simp;omega) ?_;intro gb go cap w3 hown hgrow hat hglt;have xb:=Ext.trans ((Ext.refl w2).alloc (.cells #[iv i] 3)) ((Ext.refl (w2.alloc (.cells #[iv i] 3))).drew);have R:=uU ((G2.ext xb).push hgrow hown (by simpa using hat));have eb:w3.heap[g]?=w2.heap[g]?:=(hgrow.block g (by simp;omega) (λe=>by have h1:=G2.sp.y _ e.symm;have h2:=G2.sp.g;omega)).trans (xb.block g hg2);have e8:=(World.cell?_of_block (a:=⟨g,8,none⟩) eb).trans c8;have ff8:=(World.frozen?_of_block (a:=⟨g,8,none⟩) eb).trans f8;have X3:=uU (show Ext a (w3.setCell ⟨g,8,none⟩ (.slice (some ⟨gb,go,none⟩) (x.gray.length+1) cap)) from(Below.trans (X2.trans xb) ⟨hgrow.os,hgrow.tape,hgrow.output,hgrow.size,λk hk=>hgrow.block k (Nat.lt_of_lt_of_le hk (X2.trans xb).size) (λe=>by have:=(G2.gr.lt k e.symm).1;omega)⟩).setCell (Nat.le_trans ha G2.lo) _);have FR3:=uU (show ∀q,q<w.heap.size->q≠g->q≠bc->(∀b o n,ag=some ⟨b,o,n⟩->b≠q)->(w3.setCell ⟨g,8,none⟩ (.slice (some ⟨gb,go,none⟩) (x.gray.length+1) cap)).heap[q]?=w.heap[q]? from λq hq h1 h2 h3=>(Below.heap_setCell _ _ _ _ h1).trans ((hgrow.block q (by have:=(FR2 q hq h2).2;simp;omega) (λe=>by cases ag with | none=>simp [Value.ownBlock] at e | some ad=>obtain⟨b,o,n⟩:=ad;simp [Value.ownBlock] at e;exact h3 b o n rfl e.symm)).trans ((xb.block q (FR2 q hq h2).2).trans (FR2 q hq h2).1)));clear hown hgrow hat eb xb)
     all_goals
      go_wp2_with fail;go_ret;exact⟨by rw[E.1];rfl,by rw[E.2];exact⟨some ⟨gb,go,none⟩,cap,_,by rw[List.length_append];exact uH R⟩,X3,FR3⟩
theorem a6y[Inhabited uZ](y:Wd)(w:World)(h:GAt B w g x ar kr ac kc (.slice ag x.gray.length kg) br bc pb pa pk role)(hy:y.k=2->0<=y.a/\y.a<x.cells.length)(n2:x.cells.length<=8000)(n4:x.gray.length<=8000)(a:World)(ha:a.heap.size<=B)(hx:Ext a w)(hB:B<=w.heap.size):
  Calls Tryz.prog 232 #[.pointer (some ⟨g,0,none⟩),y.v] w λe w'=>e=.returned (.bool (yE x y))/\Hid (∃ag' kg' role',GAt B w' g (a5o x y) ar kr ac kc (.slice ag' (a5o x y).gray.length kg') br bc pb pa pk role')/\Ext a w':=
 (b3e y w h hy n2 n4 a ha hx hB).mono λ_ _ ⟨h1,h2,h3,_⟩=>⟨h1,h2,h3⟩
theorem GAt.hat[Inhabited uZ]{vg:Value}(h:GAt B w g x ar kr ac kc vg br bc pb pa pk role)(s:Snd x):∃ag kg,HAt w g x ar kr ac kc ag kg:=by
 obtain⟨ag,kg,hvg⟩:=h.gr.form;subst hvg;have n8:=s.ok.n8;have ng:=s.r1.gray;obtain⟨⟨ar',kr',e1,_,hr⟩,⟨ac',kc',e2,_,hc⟩,⟨ag',kg',e3,_,hg⟩⟩:=h.rd (by rw[s.r1.regs];omega) (by omega) (λq hq=>s.ok.p200 q hq) (by omega)
 injection e1 with e1;injection e2 with e2;injection e3 with e3
 subst e1 e2 e3;obtain⟨b0,b1,b2,b3,b4,b5,b6,b7,b8,b9,b10,b11,b12⟩:=h.bx;exact⟨ag,kg,b0,b1,b2,b3,b4,b5,b6,b7,b8,b9,b10,b11,b12,by rw[s.r1.regs];omega,by omega,by omega,hr,λi hi=>by obtain⟨b',o,e,q⟩:=hc i hi;rw[Hp.c_eq x i hi] at q;exact⟨b',o,e,q⟩,hg⟩
theorem res_in(r2:R2 x){y:Wd}(hy:uJ y x.cells.length):(zU x y).k=2->0<=(zU x y).a/\(zU x y).a<x.cells.length:=λhk=>by
 unfold uJ at hy;unfold zU at hk ⊢
 split
 ·rename_i h;have hi:y.a.toNat<x.cells.length:=by omega
  have:=r2.1 y.a.toNat hi;unfold dN eV at this;show 0<=(x.c y.a.toNat).to/\(x.c y.a.toNat).to<x.cells.length;omega
 ·rename_i h;rw[if_neg h] at hk;omega
theorem b8o(h:∀q,(z.c q).st=(x.c q).st/\(z.c q).to=(x.c q).to)(y:Wd):zU z y=zU x y:=by
 unfold zU;rw[(h _).1,(h _).2]
theorem c5f(h:∀q,(z.c q).st=(x.c q).st/\(z.c q).to=(x.c q).to)(H:Nat->Bool)(y:Wd):qW z H y=qW x H y:=by
 unfold qW;rw[b8o h]
theorem c5g(s:Snd x)(h:dK x i)(k:Nat)(hk:k<(x.c i).prs.length):uJ ((x.c i).p k).key x.cells.length/\uJ ((x.c i).p k).val x.cells.length:=by
 have g:=h.good s.r2 s.r4;have p:=((s.r4.2 i g.1).2 k hk).2 g.2.2;exact⟨p.1.1,p.2.1⟩
theorem inH_st(x:Hp)(H:Nat->Bool)(b:Hp)(i k:Nat)(hi:i<b.cells.length)(hb:∀q,(b.c q).st=(x.c q).st/\(b.c q).to=(x.c q).to)(q:Nat):((inH x H b i k).c q).st=(x.c q).st/\((inH x H b i k).c q).to=(x.c q).to:=by
 have:=Hp.c_set b i { x.c i with prs:=(x.c i).prs.take k++yX x H (x.c i) ((x.c i).prs.drop k) } hi q;have e:(inH x H b i k).c q=({ b with cells:=b.cells.set i { x.c i with prs:=(x.c i).prs.take k++yX x H (x.c i) ((x.c i).prs.drop k) } }:Hp).c q:=rfl;rw[e,this];by_cases c:q=i
 ·rw[if_pos c,c];exact⟨rfl,rfl⟩
 ·rw[if_neg c];exact hb q
theorem c7t(x:Hp)(H:Nat->Bool)(k:Nat)(hk:k<=x.cells.length)(q:Nat):((cK x H k).c q).st=(x.c q).st/\((cK x H k).c q).to=(x.c q).to:=by
 rw[a9p x H k hk q]
 split
 ·exact⟨rfl,rfl⟩
 ·exact⟨rfl,rfl⟩
theorem a5u(x:Hp)(H:Nat->Bool):∀k,(cK x H k).phase=x.phase/\(cK x H k).hand=x.hand/\(cK x H k).gray=x.gray/\(cK x H k).regs=x.regs
 | 0=>⟨rfl,rfl,rfl,rfl⟩
 | k+1=>by
  unfold cK
  split
  ·exact a5u x H k
  ·exact a5u x H k
theorem c1q(x:Hp)(H:Nat->Bool)(k:Nat):uV (cK x H k)=uV x:=by
 obtain⟨a,b,c,_⟩:=a5u x H k;unfold uV;rw[a,b,c,a1p]
theorem b0t(x:Hp)(H:Nat->Bool)(i:Nat)(e:uV x=(i:Int)):∀k,k<=i->(cK x H k).sub=x.sub
 | 0,_=>rfl
 | k+1,hk=>by
  have ih:=b0t x H i e k (by omega);unfold cK
  split
  ·show qH x H k (cK x H k).sub=x.sub;unfold qH;rw[if_neg (by rw[e];omega)];exact ih
  ·exact ih
theorem c5h(x:Hp)(H:Nat->Bool)(i:Nat)(h:H i=true):cK x H (i+1)=inH x H (cK x H i) i 0:=by
 show(if H i=true then _ else _)=_;rw[if_pos h];unfold inH yL qH;simp
theorem a5a(x:Hp)(H:Nat->Bool)(hp:∀i,i<x.cells.length->(x.c i).prs.length<=200):∀k,k<=x.cells.length->eC x H k<=200*k
 | 0,_=>Nat.le_refl _
 | k+1,hk=>by
  have ih:=a5a x H hp k (by omega);have h1:=a5t x H (x.c k) (x.c k).prs;have h2:=hp k (by omega);unfold eC
  split <;> omega
theorem a5v(x:Hp)(H:Nat->Bool):∀k,(cK x H k).used=x.used-eC x H k
 | 0=>by simp [cK,eC]
 | k+1=>by
  have ih:=a5v x H k;unfold cK eC
  split
  ·show(cK x H k).used-eZ x H (x.c k) (x.c k).prs=_;rw[ih];omega
  ·exact ih
theorem b3g(x:Hp)(H:Nat->Bool)(hp:∀i,i<x.cells.length->(x.c i).prs.length<=200):∀k,k<=x.cells.length->x.sub-200*k<=(cK x H k).sub/\(cK x H k).sub<=x.sub
 | 0,_=>by simp [cK]
 | k+1,hk=>by
  have ih:=b3g x H hp k (by omega);unfold cK
  split
  ·show x.sub-200*((k+1:Nat):Int)<=qH x H k (cK x H k).sub/\qH x H k (cK x H k).sub<=x.sub;unfold qH;have h1:=a5t x H (x.c k) ((x.c k).prs.take (cK x H k).sub.toNat);have h2:=hp k (by omega);have h3:((x.c k).prs.take (cK x H k).sub.toNat).length<=200:=by simp;omega
   split <;> omega
  ·omega
theorem inH_num(x:Hp)(H:Nat->Bool)(hp:∀i,i<x.cells.length->(x.c i).prs.length<=200)(i k:Nat)(hi:i<x.cells.length)(n8:x.cells.length<=8000)(hu:0<=x.used/\x.used<=4000)(hs:0<=x.sub/\x.sub<=200):
  (-3000000<=(inH x H (cK x H i) i k).used/\(inH x H (cK x H i) i k).used<=1000000)/\(-3000000<=(inH x H (cK x H i) i k).sub/\(inH x H (cK x H i) i k).sub<=1000000):=by
 have h1:=a5a x H hp i (by omega);have h2:=a5v x H i;have h3:=b3g x H hp i (by omega);have h4:=a5t x H (x.c i) ((x.c i).prs.drop k);have h5:=hp i hi;have h6:((x.c i).prs.drop k).length<=200:=by simp;omega
 have h7:=a5t x H (x.c i) (((x.c i).prs.take (cK x H i).sub.toNat).drop k);have h8:(((x.c i).prs.take (cK x H i).sub.toNat).drop k).length<=200:=by simp;omega
 unfold inH;refine⟨?_,?_⟩
 ·simp only;omega
 ·simp only;split <;> omega
theorem a2u(x z:Hp)(H:Nat->Bool):∀k,(qK x z H k).cells.length=z.cells.length
 | 0=>rfl
 | k+1=>by
  unfold qK
  split
  ·simp [a2u x z H k]
  ·exact a2u x z H k
theorem c3i(x z:Hp)(H:Nat->Bool):∀k,k<=z.cells.length->∀q,k<=q->(qK x z H k).c q=z.c q
 | 0,_,q,_=>rfl
 | k+1,hk,q,hq=>by
  have ih:=c3i x z H k (by omega) q (by omega);unfold qK
  split
  ·have:=Hp.c_set (qK x z H k) k (b1y (x.c k)) (by rw[a2u];omega) q;rw[this,if_neg (by omega)];exact ih
  ·exact ih
theorem b6v(x:Hp)(H:Nat->Bool):∀k,tQ x H k<=k
 | 0=>Nat.le_refl _
 | k+1=>by
  have:=b6v x H k;unfold tQ
  split <;> omega
theorem b3h(s:Snd x)(hi:i<x.cells.length)(h1:(x.c i).st=1)(e:uV x=(i:Int)):0<=x.sub/\x.sub<=(x.c i).prs.length:=by
 refine⟨s.r1.sub.1,?_⟩;unfold uV at e
 split at e
 ·rename_i h;have:=(s.r6.2.1 h.1).2.2 (by omega);have e2:x.g0=i:=by unfold Hp.g0;rw[e];simp
  rw[e2] at this;exact this
 ·split at e
  ·rename_i h;have e2:x.hand.toNat=i:=by omega
   have:=(s.r6.2.2.1 h.1).2;rw[e2] at this;exact this ⟨by omega,h1⟩
  ·omega
def a1b(x:Hp)(H:Nat->Bool)(k:Nat)(z:Hp):Hp:=
 if H k=true then { z with cells:=z.cells.set k (yL x H (x.c k)),used:=z.used-eZ x H (x.c k) (x.c k).prs,sub:=qH x H k z.sub }
 else if (x.c k).last=1 then { z with cells:=z.cells.set k (b1y (x.c k)) } else z
def stTo(x:Hp)(H:Nat->Bool):Nat->Hp
 | 0=>x
 | k+1=>a1b x H k (stTo x H k)
def a3p(x y:Hp):Prop:=x.room=y.room/\x.born=y.born/\x.regs=y.regs/\x.phase=y.phase/\x.hand=y.hand/\x.gray=y.gray/\x.per=y.per/\x.start=y.start/\x.rounds=y.rounds/\x.forced=y.forced
theorem a3p.refl(x:Hp):a3p x x:=⟨rfl,rfl,rfl,rfl,rfl,rfl,rfl,rfl,rfl,rfl⟩
theorem hp_eq{y:Hp}(r:a3p x y)(hu:x.used=y.used)(hs:x.sub=y.sub)(hl:x.cells.length=y.cells.length)(hc:∀q,q<x.cells.length->x.c q=y.c q):x=y:=by
 have e:x.cells=y.cells:=List.ext_getElem hl λi h1 h2=>by rw[Hp.c_eq x i h1,Hp.c_eq y i h2];exact hc i h1
 obtain⟨r1,r2,r3,r4,r5,r6,r7,r8,r9,r10⟩:=r;cases x;cases y;simp only at *;subst r1 r2 r3 r4 r5 r6 r7 r8 r9 r10 hu hs e;rfl
theorem a2v(x:Hp)(H:Nat->Bool):∀k,a3p (stTo x H k) x
 | 0=>a3p.refl x
 | k+1=>by
  have ih:=a2v x H k;show a3p (a1b x H k (stTo x H k)) x;unfold a1b
  split
  ·exact ih
  ·split
   ·exact ih
   ·exact ih
theorem b3i(x:Hp)(H:Nat->Bool):∀k,a3p (cK x H k) x
 | 0=>a3p.refl x
 | k+1=>by
  have ih:=b3i x H k;unfold cK
  split
  ·exact ih
  ·exact ih
theorem a8q(x z:Hp)(H:Nat->Bool):∀k,a3p (qK x z H k) z/\(qK x z H k).used=z.used/\(qK x z H k).sub=z.sub
 | 0=>⟨a3p.refl z,rfl,rfl⟩
 | k+1=>by
  have ih:=a8q x z H k;unfold qK
  split
  ·exact ih
  ·exact ih
theorem a2c(x:Hp)(H:Nat->Bool):∀k,(stTo x H k).cells.length=x.cells.length
 | 0=>rfl
 | k+1=>by
  have ih:=a2c x H k;show(a1b x H k (stTo x H k)).cells.length=_;unfold a1b
  split
  ·simpa using ih
  ·split
   ·simpa using ih
   ·exact ih
theorem b3j(x:Hp)(H:Nat->Bool):∀k,(stTo x H k).used=(cK x H k).used/\(stTo x H k).sub=(cK x H k).sub
 | 0=>⟨rfl,rfl⟩
 | k+1=>by
  have ih:=b3j x H k;show(a1b x H k (stTo x H k)).used=_/\(a1b x H k (stTo x H k)).sub=_;unfold a1b cK;by_cases h:H k=true
  ·rw[if_pos h,if_pos h];exact⟨by show(stTo x H k).used-_=(cK x H k).used-_;rw[ih.1],by show qH x H k (stTo x H k).sub=qH x H k (cK x H k).sub;rw[ih.2]⟩
  ·rw[if_neg h,if_neg h]
   split
   ·exact ih
   ·exact ih
theorem set_c(z:Hp)(u s:Int)(k:Nat)(c:Cl)(hk:k<z.cells.length)(q:Nat):({ z with cells:=z.cells.set k c,used:=u,sub:=s }:Hp).c q=if q=k then c else z.c q:=Hp.c_set z k c hk q
theorem a7b(x:Hp)(H:Nat->Bool):∀k,k<=x.cells.length->∀q,(stTo x H k).c q=if q<k then b3c x H q else x.c q
 | 0,_,q=>by rw[if_neg (by omega)];rfl
 | k+1,hk,q=>by
  have ih:=a7b x H k (by omega) q;have hl:k<(stTo x H k).cells.length:=by rw[a2c];omega
  show(a1b x H k (stTo x H k)).c q=_
  have key:(a1b x H k (stTo x H k)).c q=if q=k then b3c x H k else (stTo x H k).c q:=by
   unfold a1b b3c;by_cases h:H k=true
   ·rw[if_pos h,if_pos h];exact set_c _ _ _ k _ hl q
   ·rw[if_neg h,if_neg h];by_cases h2:(x.c k).last=1
    ·rw[if_pos h2,if_pos h2];exact Hp.c_set _ k _ hl q
    ·rw[if_neg h2,if_neg h2];by_cases e:q=k
     ·subst e;rw[if_pos rfl,ih,if_neg (by omega)]
     ·rw[if_neg e]
  rw[key,ih];by_cases e:q=k
  ·subst e;rw[if_pos rfl,if_pos (by omega)]
  ·rw[if_neg e];by_cases h:q<k
   ·rw[if_pos h,if_pos (by omega)]
   ·rw[if_neg h,if_neg (by omega)]
theorem b8p(x z:Hp)(H:Nat->Bool):∀k,k<=z.cells.length->∀q,(qK x z H k).c q=if q<k/\yU x H q=true then b1y (x.c q) else z.c q
 | 0,_,q=>by rw[if_neg (by omega)];rfl
 | k+1,hk,q=>by
  have ih:=b8p x z H k (by omega) q;have hl:k<(qK x z H k).cells.length:=by rw[a2u];omega
  unfold qK;by_cases h:yU x H k=true
  ·rw[if_pos h];have:=Hp.c_set (qK x z H k) k (b1y (x.c k)) hl q;rw[this,ih];by_cases e:q=k
   ·subst e;rw[if_pos rfl,if_pos ⟨by omega,h⟩]
   ·rw[if_neg e];by_cases h2:q<k/\yU x H q=true
    ·rw[if_pos h2,if_pos ⟨by omega,h2.2⟩]
    ·rw[if_neg h2,if_neg (λh3=>h2 ⟨by omega,h3.2⟩)]
  ·rw[if_neg h,ih];by_cases h2:q<k/\yU x H q=true
   ·rw[if_pos h2,if_pos ⟨by omega,h2.2⟩]
   ·rw[if_neg h2,if_neg (λh3=>by
     by_cases e:q=k
     ·rw[e] at h3;exact h h3.2
     ·exact h2 ⟨by omega,h3.2⟩)]
theorem a5b(x:Hp)(H:Nat->Bool):stTo x H x.cells.length=dD x H:=by
 have d:=a8q x (cK x H x.cells.length) H x.cells.length;have c:=b3i x H x.cells.length;have s:=a2v x H x.cells.length;have u:=b3j x H x.cells.length;have hlz:(cK x H x.cells.length).cells.length=x.cells.length:=a1p x H _;refine hp_eq ?_ (by rw[u.1];exact d.2.1.symm) (by rw[u.2];exact d.2.2.symm) ?_ λq hq=>?_
 ·obtain⟨d1,d2,d3,d4,d5,d6,d7,d8,d9,d10⟩:=d.1;obtain⟨c1,c2,c3,c4,c5,c6,c7,c8,c9,c10⟩:=c;obtain⟨s1,s2,s3,s4,s5,s6,s7,s8,s9,s10⟩:=s;exact⟨s1.trans (d1.trans c1).symm,s2.trans (d2.trans c2).symm,s3.trans (d3.trans c3).symm,s4.trans (d4.trans c4).symm,s5.trans (d5.trans c5).symm,s6.trans (d6.trans c6).symm,s7.trans (d7.trans c7).symm,s8.trans (d8.trans c8).symm,s9.trans (d9.trans c9).symm,s10.trans (d10.trans c10).symm⟩
 ·rw[a2c];unfold dD;rw[a2u,a1p]
 ·have hq':q<x.cells.length:=by rw[a2c] at hq;exact hq
  rw[a7b x H _ (Nat.le_refl _) q,if_pos hq'];unfold dD;rw[b8p x _ H _ (by rw[hlz];exact Nat.le_refl _) q,a9p x H _ (Nat.le_refl _) q];unfold b3c yU;cases h:H q
  ·by_cases h2:(x.c q).last=1
   ·rw[if_neg (by simp),if_pos h2,if_pos ⟨hq',by simp [h2]⟩]
   ·rw[if_neg (by simp),if_neg h2,if_neg (by simp [h2]),if_neg (by simp)]
  ·rw[if_pos rfl,if_neg (by simp),if_pos ⟨hq',rfl⟩]
theorem c5i{H G:Nat->Bool}(h:∀i,H i=true↔dK x i)(g:∀i,G i=true↔dK x i):H=G:=by
 funext i
 have:=(h i).trans (g i).symm;cases hh:H i <;> cases gg:G i <;> simp [hh,gg] at this <;> rfl
theorem c3j(x:Hp)(H:Nat->Bool)(k:Nat)(hk:k<=x.cells.length)(q:Nat):((stTo x H k).c q).st=(x.c q).st/\((stTo x H k).c q).to=(x.c q).to:=by
 rw[a7b x H k hk q]
 split
 ·unfold b3c
  split
  ·exact⟨rfl,rfl⟩
  ·split <;> exact⟨rfl,rfl⟩
 ·exact⟨rfl,rfl⟩
def qY(x:Hp)(p:Nat->Bool):Nat->Nat
 | 0=>0
 | k+1=>qY x p k+(if p k=true then 1+(x.c k).prs.length else 0)
theorem b1p{x:Hp}{p q:Nat->Bool}(h:∀i,p i=q i)(k:Nat):qY x p k=qY x q k:=by
 induction k with
 | zero=>rfl
 | succ k ih=>simp only [qY,ih,h]
theorem b3k{x:Hp}{p:Nat->Bool}(h:∀i,i<x.cells.length->(x.c i).prs.length<=200)(k:Nat)(hk:k<=x.cells.length):qY x p k<=201*k:=by
 induction k with
 | zero=>simp [qY]
 | succ k ih=>
  have:=h k (by omega);have:=ih (by omega);simp only [qY]
  split <;> omega
theorem b5p(x:Hp)(b bs:Nat)(p:Nat->Bool)(w:World)(h:HAt w b x ar kr ac kc ag kg)(hs:∀i,i<x.cells.length->w.cell? ⟨bs,i,none⟩=some (.bool (p i)))(hn8:x.cells.length<=8000)(h200:∀i,i<x.cells.length->(x.c i).prs.length<=200):
  Calls Tryz.prog 76 #[.pointer (some ⟨b,0,none⟩),.slice (some ⟨bs,0,none⟩) x.cells.length x.cells.length] w λe w'=>e=.returned (.int .i64 (qY x p x.cells.length:Int))/\w'=w:=by
 have HS:=uU hs;have HH:=uU h;have c4:=h.c4;have HL:=uU (λk hk=>b3k (p:=p) h200 k hk);clear hs h;go_enter Tryz.func76,Tryz.ntmps76;go_wp2_with fail
 go_loop [5,10] (λn i=>∃(k u:Nat),k<=x.cells.length/\i=.int .i64 k/\n=.int .i64 u/\Hid (u=qY x p k)) (λ_ i=>x.cells.length-(intOf i).toNat)
 case atStart=>exact⟨0,0,Nat.zero_le _,rfl,rfl,rfl⟩
 case round=>
  obtain⟨k,u,hk,rfl,rfl,hu⟩:=hrel;have hul:u<=201*k:=by have:=uH hu;rw[this];exact HL k hk
  by_cases hlt:k<x.cells.length
  ·have hc:=uH HS k hlt;obtain⟨b',o,ap,kp,rfl,p0,p1,p2,p3,p4,p5,p6,p7,lp,P⟩:=HH.cell k hlt;have hl:=h200 k hlt;have hk0:(0:Int)<=(k:Int):=by omega
   have hk1:(k:Int)<(x.cells.length:Int):=by omega
   clear P p0 p1 p2 p3 p4 p5 p6;cases tp:p k
   ·rw[tp] at hc;have U2:=uU (show u=qY x p (k+1) by have:=uH hu;simp only [qY,tp];simp;exact this);go_wp2_with fail
    go_round
    case rel=>exact⟨k+1,u,by omega,by go_num,rfl,U2⟩
    case measure=>simp [intOf];omega
   ·rw[tp] at hc;have U2:=uU (show u+(1+(x.c k).prs.length)=qY x p (k+1) by have:=uH hu;simp only [qY,tp];simp;omega);go_wp2_with fail
    go_round
    case rel=>exact⟨k+1,u+(1+(x.c k).prs.length),by omega,by go_num,by go_num,U2⟩
    case measure=>simp [intOf];omega
  ·have hk2:k=x.cells.length:=by omega
   have U:=uU (show u=qY x p x.cells.length by have:=uH hu;rw[hk2] at this;exact this);clear hk2;go_wp2_with fail;go_ret;exact⟨by rw[<-uH U];rfl,rfl⟩
def c7u(x:Hp)(r:Nat):Prop:=(eU x 0/\∃p:Nat->Bool,(∀i,p i=true↔cY x i)/\r=qY x p x.cells.length)\/(¬eU x 0/\r=0)
theorem c1r(x:Hp)(b:Nat)(w:World)(h:HAt w b x ar kr ac kc ag kg)(ok:eU x 0):
  Calls Tryz.prog 75 #[.pointer (some ⟨b,0,none⟩)] w λe w'=>∃r:Nat,Hid (e=.returned (.int .i64 (r:Int)))/\c7u x r/\Ext w w':=by
 have HH:=uU h;have OK:=uU ok;clear h ok;go_enter Tryz.func75,Tryz.ntmps75;go_wp2_with fail;refine(b8a x b _ HH OK.all.2.1 OK.all.2.2.2 OK.n8).mono ?_;rintro e w1 ⟨v,L,rfl,hs,hr,hq⟩;have HS:=uU hs;clear hs;go_wp2_with fail;refine(b5p x b w.heap.size (λi=>decide ((i:Int)∈L)) _ (HH.ext hq) HS.s OK.n8 OK.p200).mono ?_;rintro e w2 ⟨rfl,rfl⟩;go_wp2_with fail;go_ret;exact⟨_,rfl,.inl ⟨OK,_,λi=>by simpa using uH hr i,rfl⟩,hq⟩
abbrev ptr(bn p:Nat):Value:=.pointer (some ⟨bn,p,none⟩)
theorem a8s(w:World)(bn p q:Nat):(sameAddr ⟨bn,p,none⟩ ⟨bn,q,none⟩).run P w=.ok (p == q) w:=by
 have:((⟨bn,p,none⟩:Addr) == ⟨bn,q,none⟩)=(p == q):=by
  rw[Bool.eq_iff_iff];simp
 simp [sameAddr,this]
theorem b2b(w:World)(d:Nat)(t e:TypeId)(i:TypeInfo)(ht:P.underlying t=some (.pointer e))(hi:P.info? e=some i)(hs:i.size≠0)(bn p q:Nat):
  (Op.equalIn (d+1) t (ptr bn p) (ptr bn q)).run P w=.ok (p == q) w:=by
 simp [Op.equalIn,run_underlying ht,sizeOf,typeInfo,hi,hs,a8s]
theorem a3b(w:World)(t e:TypeId)(i:TypeInfo)(ht:P.underlying t=some (.pointer e))(hi:P.info? e=some i)(hs:i.size≠0)(bn p q:Nat):
  (Op.equal t (ptr bn p) (ptr bn q)).run P w=.ok (p == q) w:=b2b w 9999 t e i ht hi hs bn p q
def b2i(bn:Nat)(Q:List Nat)(l:List MapEntry):Prop:=l.map (·.key)=Q.map (ptr bn)/\∀e,e∈l->e.val=.agg #[]
theorem b8t{P:Program}(w:World)(t e:TypeId)(i:TypeInfo)(ht:P.underlying t=some (.pointer e))(hi:P.info? e=some i)(hs:i.size≠0)(bn p:Nat):
  ∀(l:List MapEntry) (Q:List Nat) (k:Nat),b2i bn Q l->∃r,(Instr.findAsking t (ptr bn p) l k).run P w=.ok r w/\((p∈Q/\∃j,r=some (j,.agg #[]))\/(¬p∈Q/\r=none))
 | [],Q,k,h=>by
  have:Q=[]:=by simpa using h.1.symm
  subst this;exact⟨none,by simp [Instr.findAsking],.inr ⟨by simp,rfl⟩⟩
 | x::l,Q,k,h=>by
  cases Q with
  | nil=>have:=h.1;simp at this
  | cons q Q=>
   have h1:=h.1;simp only [List.map_cons,List.cons.injEq] at h1;have hv:=h.2 x List.mem_cons_self;by_cases e:p=q
   ·subst e;refine⟨some (k,.agg #[]),?_,.inl ⟨List.mem_cons_self,k,rfl⟩⟩;simp [Instr.findAsking,h1.1,a3b w t _ i ht hi hs,hv]
   ·obtain⟨r,hr,ho⟩:=b8t w t _ i ht hi hs bn p l Q (k+1) ⟨h1.2,λy hy=>h.2 y (List.mem_cons_of_mem _ hy)⟩;refine⟨r,?_,?_⟩
    ·simp [Instr.findAsking,h1.1,a3b w t _ i ht hi hs,e,hr]
    ·rcases ho with⟨m,j⟩ | ⟨m,j⟩
     ·exact .inl ⟨List.mem_cons_of_mem _ m,j⟩
     ·exact .inr ⟨by simp [e,m],j⟩
theorem a4m(e:TypeId)(k:Value)(l:List MapEntry):Instr.findNow (.pointer e) k l 0=(if l=[] then some none else none):=by
 cases l with
 | nil=>rfl
 | cons x l=>simp [Instr.findNow,Instr.sameNow]
theorem b1q(w:World)(t e:TypeId)(i:TypeInfo)(ht:P.underlying t=some (.pointer e))(hi:P.info? e=some i)(hs:i.size≠0)(bn p:Nat)(l:List MapEntry)(Q:List Nat)(h:b2i bn Q l):
  ∃r,(Instr.findKey t (ptr bn p) l).run P w=.ok r w/\((p∈Q/\∃j,r=some (j,.agg #[]))\/(¬p∈Q/\r=none)):=by
 obtain⟨r,hr,ho⟩:=b8t w t e i ht hi hs bn p l Q 0 h;by_cases hl:l=[]
 ·subst hl;have:Q=[]:=by simpa using h.1.symm
  subst this;exact⟨none,by simp [Instr.findKey,run_underlying ht,a4m],.inr ⟨by simp,rfl⟩⟩
 ·refine⟨r,?_,ho⟩;simp [Instr.findKey,run_underlying ht,a4m,hl,hr]
theorem b4w(w:World)(d:Nat)(t e:TypeId)(ht:P.underlying t=some (.pointer e))(em:Bool)(v:Option Addr):(Instr.checkKey em (d+1) t (.pointer v)).run P w=.ok () w:=by
 simp [Instr.checkKey,run_underlying ht]
theorem a1c(w:World)(t e:TypeId)(ht:P.underlying t=some (.pointer e))(em:Bool)(v:Option Addr):(Instr.checkKey em 10000 t (.pointer v)).run P w=.ok () w:=b4w w 9999 t e ht em v
structure zQ(w:World)(r bn:Nat)(Q:List Nat):Prop where
 mk' ::
 m:∃es clock,w.heap[r]?=some (.map es clock)/\b2i bn Q es.toList
theorem zQ.block(h:zQ w r bn Q)(e:w'.heap[r]?=w.heap[r]?):zQ w' r bn Q:=by
 obtain⟨es,c,h1,h2⟩:=h.m;exact⟨es,c,e.trans h1,h2⟩
theorem zQ.lookup(h:zQ w r bn Q){i:TypeInfo}(hm:P.underlying mt=some (.map t et))(ht:P.underlying t=some (.pointer e))(hi:P.info? e=some i)(hs:i.size≠0)(hz:∀w,(zeroValue et).run P w=.ok (.agg #[]) w)(p:Nat):
  (Instr.lookup mt (.map (some r)) (ptr bn p) true).run P w=.ok (.tuple #[.agg #[],.bool (decide (p∈Q))]) w:=by
 obtain⟨es,c,h1,h2⟩:=h.m;obtain⟨f,hf,ho⟩:=b1q w t e i ht hi hs bn p es.toList Q h2;rcases ho with⟨m,j,rfl⟩ | ⟨m,rfl⟩
 ·simp [Instr.lookup,run_underlying hm,MapKept.run_getObj_map h1,a1c w t e ht,hf,m]
 ·simp [Instr.lookup,run_underlying hm,MapKept.run_getObj_map h1,a1c w t e ht,hf,m,hz]
theorem zQ.update(h:zQ w r bn Q){i:TypeInfo}(hm:P.underlying mt=some (.map t et))(ht:P.underlying t=some (.pointer e))(hi:P.info? e=some i)(hs:i.size≠0)(p:Nat)(hp:¬p∈Q):
  ∃w',(Instr.mapUpdate mt (.map (some r)) (ptr bn p) (.agg #[])).run P w=.ok () w'/\zQ w' r bn (Q++[p])/\w'.os=w.os/\w'.tape=w.tape/\w'.output=w.output/\w'.heap.size=w.heap.size/\(∀k:Nat,k≠r->w'.heap[k]?=w.heap[k]?):=by
 obtain⟨es,c,h1,h2⟩:=h.m;obtain⟨f,hf,ho⟩:=b1q w t e i ht hi hs bn p es.toList Q h2;rcases ho with⟨m,_⟩ | ⟨_,rfl⟩
 ·exact(hp m).elim
 ·have hlt:r<w.heap.size:=by
   rcases Nat.lt_or_ge r w.heap.size with q | q
   ·exact q
   ·rw[Array.getElem?_eq_none q] at h1;cases h1
  refine⟨{ w with heap:=w.heap.setIfInBounds r (.map (es.push { key:=ptr bn p,val:=.agg #[],born:=c }) (c+1)) },?_,⟨es.push { key:=ptr bn p,val:=.agg #[],born:=c },c+1,?_,?_⟩,rfl,rfl,rfl,by simp,λk hk=>?_⟩
  ·simp [Instr.mapUpdate,run_underlying hm,MapKept.run_getObj_map h1,a1c w t e ht,hf,MapKept.run_setObj_map _ h1]
  ·show(w.heap.setIfInBounds r _)[r]?=_;rw[Array.getElem?_setIfInBounds,if_pos rfl,if_pos hlt]
  ·refine⟨?_,λy hy=>?_⟩
   ·simp [h2.1]
   ·simp at hy;rcases hy with hy | hy
    ·exact h2.2 y (by simpa using hy)
    ·rw[hy]
  ·show(w.heap.setIfInBounds r _)[k]?=_;rw[Array.getElem?_setIfInBounds,if_neg (λe=>hk e.symm)]
def a3m(bn on:Nat)(f:Nat->Value)(Q:List Nat)(l:List MapEntry):Prop:=l.map (λe=>(e.key,e.val))=Q.map (λk=>(ptr bn (on+k*2),f k))
theorem findF{P:Program}(w:World)(t e:TypeId)(i:TypeInfo)(ht:P.underlying t=some (.pointer e))(hi:P.info? e=some i)(hs:i.size≠0)(bn on:Nat)(f:Nat->Value)(k:Nat):
  ∀(l:List MapEntry) (Q:List Nat) (m:Nat),a3m bn on f Q l->∃r,(Instr.findAsking t (ptr bn (on+k*2)) l m).run P w=.ok r w/\((∃j,r=some (m+j,f k)/\Q[j]?=some k)\/(¬k∈Q/\r=none))
 | [],Q,m,h=>by
  have:Q=[]:=by simpa [a3m] using h.symm
  subst this;exact⟨none,by simp [Instr.findAsking],.inr ⟨by simp,rfl⟩⟩
 | x::l,Q,m,h=>by
  cases Q with
  | nil=>simp [a3m] at h
  | cons q Q=>
   simp only [a3m,List.map_cons,List.cons.injEq,Prod.mk.injEq] at h;obtain⟨⟨h1,h2⟩,h3⟩:=h;by_cases e:k=q
   ·subst e;refine⟨some (m,f k),?_,.inl ⟨0,rfl,rfl⟩⟩;simp [Instr.findAsking,h1,a3b w t _ i ht hi hs,h2]
   ·obtain⟨r,hr,ho⟩:=findF w t _ i ht hi hs bn on f k l Q (m+1) h3;have ne:¬(k*2=q*2):=by omega
    refine⟨r,?_,?_⟩
    ·simp [Instr.findAsking,h1,a3b w t _ i ht hi hs,ne,hr]
    ·rcases ho with⟨j,hj,hq⟩ | ⟨n,hj⟩
     ·exact .inl ⟨j+1,by rw[hj];congr 2;omega,by simpa using hq⟩
     ·exact .inr ⟨by simp [e,n],hj⟩
theorem b9f(w:World)(t e:TypeId)(i:TypeInfo)(ht:P.underlying t=some (.pointer e))(hi:P.info? e=some i)(hs:i.size≠0)(bn on:Nat)(f:Nat->Value)(k:Nat)(l:List MapEntry)(Q:List Nat)(h:a3m bn on f Q l):
  ∃r,(Instr.findKey t (ptr bn (on+k*2)) l).run P w=.ok r w/\((∃j,r=some (j,f k)/\Q[j]?=some k)\/(¬k∈Q/\r=none)):=by
 obtain⟨r,hr,ho⟩:=findF w t e i ht hi hs bn on f k l Q 0 h;by_cases hl:l=[]
 ·subst hl;have:Q=[]:=by simpa [a3m] using h.symm
  subst this;exact⟨none,by simp [Instr.findKey,run_underlying ht,a4m],.inr ⟨by simp,rfl⟩⟩
 ·refine⟨r,?_,by simpa using ho⟩;simp [Instr.findKey,run_underlying ht,a4m,hl,hr]
structure b0v(w:World)(r bn on:Nat)(f:Nat->Value):Prop where
 mk' ::
 m:∃es clock Q,w.heap[r]?=some (.map es clock)/\a3m bn on f Q es.toList/\Q.Nodup/\∀k,¬k∈Q->f k=.slice none 0 0
theorem b0v.block{f:Nat->Value}(h:b0v w r bn on f)(e:w'.heap[r]?=w.heap[r]?):b0v w' r bn on f:=by
 obtain⟨es,c,Q,h1,h2⟩:=h.m;exact⟨es,c,Q,e.trans h1,h2⟩
theorem b0v.lt{f:Nat->Value}(h:b0v w r bn on f):r<w.heap.size:=by
 obtain⟨es,c,Q,h1,_⟩:=h.m;rcases Nat.lt_or_ge r w.heap.size with q | q
 ·exact q
 ·rw[Array.getElem?_eq_none q] at h1;cases h1
theorem b0v.lookup{f:Nat->Value}(h:b0v w r bn on f){i:TypeInfo}(hm:P.underlying mt=some (.map t et))(ht:P.underlying t=some (.pointer e))(hi:P.info? e=some i)(hs:i.size≠0)(hz:∀w,(zeroValue et).run P w=.ok (.slice none 0 0) w)(k:Nat):
  (Instr.lookup mt (.map (some r)) (ptr bn (on+k*2)) false).run P w=.ok (f k) w:=by
 obtain⟨es,c,Q,h1,h2,h3,h4⟩:=h.m;obtain⟨g,hg,ho⟩:=b9f w t e i ht hi hs bn on f k es.toList Q h2;rcases ho with⟨j,rfl,hj⟩ | ⟨n,rfl⟩
 ·simp [Instr.lookup,run_underlying hm,MapKept.run_getObj_map h1,a1c w t e ht,hg]
 ·simp [Instr.lookup,run_underlying hm,MapKept.run_getObj_map h1,a1c w t e ht,hg,hz,h4 k n]
theorem a3m.at{f:Nat->Value}{l:List MapEntry}(h:a3m bn on f Q l)(i:Nat):(l[i]?).map (λe=>(e.key,e.val))=(Q[i]?).map (λk=>(ptr bn (on+k*2),f k)):=by
 rw[<-List.getElem?_map,<-List.getElem?_map,h]
theorem b0v.update{P:Program}{w:World}{r bn on:Nat}{f:Nat->Value}(h:b0v w r bn on f){mt t e et:TypeId}{i:TypeInfo}(hm:P.underlying mt=some (.map t et))(ht:P.underlying t=some (.pointer e))(hi:P.info? e=some i)(hs:i.size≠0)(k:Nat)(v:Value):
  ∃w',(Instr.mapUpdate mt (.map (some r)) (ptr bn (on+k*2)) v).run P w=.ok () w'/\b0v w' r bn on (λq=>if q=k then v else f q)/\w'.os=w.os/\w'.tape=w.tape/\w'.output=w.output/\w'.heap.size=w.heap.size/\(∀q:Nat,q≠r->w'.heap[q]?=w.heap[q]?):=by
 have hlt:=h.lt;obtain⟨es,c,Q,h1,h2,h3,h4⟩:=h.m;obtain⟨g,hg,ho⟩:=b9f w t e i ht hi hs bn on f k es.toList Q h2;rcases ho with⟨j,rfl,hj⟩ | ⟨n,rfl⟩
 ·have hat:=h2.at j;rw[hj] at hat
  obtain⟨en,hen⟩:∃en,es.toList[j]?=some en:=by
   cases q:es.toList[j]? with
   | none=>rw[q] at hat;simp at hat
   | some en=>exact⟨en,rfl⟩
  have hen2:es[j]?=some en:=by simpa using hen
  rw[hen] at hat;simp only [Option.map_some,Option.some.injEq,Prod.mk.injEq] at hat;refine⟨{ w with heap:=w.heap.setIfInBounds r (.map (es.modify j λe=>{ e with key:=ptr bn (on+k*2),val:=v }) c) },?_,⟨es.modify j λe=>{ e with key:=ptr bn (on+k*2),val:=v },c,Q,?_,?_,h3,λq hq=>?_⟩,rfl,rfl,rfl,by simp,λq hq=>?_⟩
  ·simp [Instr.mapUpdate,run_underlying hm,MapKept.run_getObj_map h1,a1c w t e ht,hg,MapKept.run_setObj_map _ h1,hen2,hat.1,Instr.keyThatStays,Instr.sameBits]
  ·show(w.heap.setIfInBounds r _)[r]?=_;rw[Array.getElem?_setIfInBounds,if_pos rfl,if_pos hlt]
  ·unfold a3m;apply List.ext_getElem?;intro m;rw[List.getElem?_map,List.getElem?_map,Array.toList_modify,List.getElem?_modify];have hm2:=h2.at m;by_cases em:j=m
   ·subst em;rw[hj,hen];simp
   ·cases qm:Q[m]? with
    | none=>rw[qm] at hm2;simp at hm2;simp [em,hm2]
    | some q=>
     rw[qm] at hm2
     have nq:q≠k:=λe=>by
      subst e
      have:=(List.getElem?_inj (i:=j) (j:=m) (l:=Q) (by
       rcases Nat.lt_or_ge j Q.length with z | z
       ·exact z
       ·rw[List.getElem?_eq_none z] at hj;cases hj) h3).1 (by rw[hj,qm])
      exact em this
     simp only [em,if_false,nq,Option.map_some]
     simpa using hm2
  ·rw[if_neg (λe=>by subst e;exact hq (List.mem_of_getElem? hj))];exact h4 q hq
  ·show(w.heap.setIfInBounds r _)[q]?=_;rw[Array.getElem?_setIfInBounds,if_neg (λe=>hq e.symm)]
 ·refine⟨{ w with heap:=w.heap.setIfInBounds r (.map (es.push { key:=ptr bn (on+k*2),val:=v,born:=c }) (c+1)) },?_,⟨es.push { key:=ptr bn (on+k*2),val:=v,born:=c },c+1,Q++[k],?_,?_,?_,λq hq=>?_⟩,rfl,rfl,rfl,by simp,λq hq=>?_⟩
  ·simp [Instr.mapUpdate,run_underlying hm,MapKept.run_getObj_map h1,a1c w t e ht,hg,MapKept.run_setObj_map _ h1]
  ·show(w.heap.setIfInBounds r _)[r]?=_;rw[Array.getElem?_setIfInBounds,if_pos rfl,if_pos hlt]
  ·unfold a3m;have e2:Q.map (λq=>(ptr bn (on+q*2),if q=k then v else f q))=Q.map (λq=>(ptr bn (on+q*2),f q)):=List.map_congr_left (λq hq=>by rw[if_neg (show ¬q=k from λz=>n (z ▸ hq))]);have h2':es.toList.map (λe=>(e.key,e.val))=Q.map (λk=>(ptr bn (on+k*2),f k)):=h2;simp [e2,h2']
  ·rw[List.nodup_append];exact⟨h3,by simp,λa ha b hb=>by simp at hb;rw[hb];intro e;exact n (e ▸ ha)⟩
  ·simp only [List.mem_append,List.mem_singleton,not_or] at hq;rw[if_neg hq.2];exact h4 q hq.1
  ·show(w.heap.setIfInBounds r _)[q]?=_;rw[Array.getElem?_setIfInBounds,if_neg (λe=>hq e.symm)]
end Go.Proofs.YtddkhnclmeikfaaGreat
