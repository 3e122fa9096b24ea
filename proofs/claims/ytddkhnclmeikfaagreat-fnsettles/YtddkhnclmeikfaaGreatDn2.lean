import Derived.Test.YtddkhnclmeikfaaGreatEr
import Derived.Test.YtddkhnclmeikfaaGreatEh
import Derived.Test.YtddkhnclmeikfaaGreatEh6
import Derived.Test.YtddkhnclmeikfaaGreatEi
import Derived.Test.YtddkhnclmeikfaaGreatEi8
import Derived.LoopIn
import Derived.LoopNIn
import Derived.OwnWalkIn
import Derived.RangeFuncBound
import Derived.RangeFuncCalls
import Derived.RangeFuncFrom
import Derived.RangeFuncLeaves
import Derived.RangeFuncNested
import Derived.Shelf.Abstract
import Derived.Shelf.RegionOpen
import Derived.TacticsInMore
set_option maxRecDepth 100000
set_option maxHeartbeats 2000000
namespace Go.Proofs.YtddkhnclmeikfaaGreat
open Go.RowKit
attribute [local go_sem ↓] Go.wp_at_zero Go.wp_at_succ
attribute [local go_sem] Oper.semAt_some
variable{k kr bs kc kg:Nat}{w w':World}{ar ac ag:Option Addr}{n:Int}
theorem dL{op a b c:Int}(h:eD op a b c n=true):(1<=op/\op<=24)/\(0<=a/\a<=zE op)/\(0<=b/\b<=zJ op)/\(0<=c/\c<=tH op):=by
 unfold eD at h;simp only [Bool.and_eq_true,decide_eq_true_eq] at h;exact⟨h.1.1,h.2.1,h.2.2.1,h.2.2.2⟩
abbrev b7n[Inhabited uZ](B g:Nat)(x:Hp)(op a b c n:Int)(v:World)(e:Ending)(w':World):Prop:=∃(y:Hp) (cd nm:Int),Hid (e=.returned (eK cd nm))/\Hid (DoIs x op a b c n y cd nm)/\Hid (GOk B w' g y)/\Ext v w'
theorem l5do_no[p:Inhabited uZ](B g:Nat)(x:Hp)(op a b c n:Int)(w:World)(h:GOk B w g x)(ok:eD op a b c n=false)(v:World)(hx:Ext v w):
  Calls Tryz.prog 234 #[.pointer (some ⟨g,0,none⟩),tJ op a b c n] w λe w'=>b7n B g x op a b c n v e w':=by
 obtain⟨p1,o1,g1⟩:=GOk.enter h (w0:=doW w op a b c n) (((Ext.refl w).alloc _).alloc _);have HG:=uU g1;have O1:=uU o1;have OK:=uU ok;have QA:=uU (λW=>a1g op a b c n W);rw[ok] at QA;have V0:=uU (show v.heap.size<=w.heap.size+1 by have:=hx.size;omega);have XD:=uU (show Ext v (doW w op a b c n) from(hx.alloc _).alloc _);clear h o1 g1 ok;go_enter Tryz.func234,Tryz.ntmps234;go_wp2_with fail;refine(QA _).mono ?_;rintro e w1 ⟨rfl,x1⟩;have X1:=uU (XD.trans x1);have G1:=uU (HG.ext x1);clear x1 QA XD HG;go_wp2_with fail;refine(a0g 1 _).mono ?_;rintro e w3 ⟨rfl,x3⟩;have G3:=uU (G1.ext x3);have X3:=uU (X1.trans x3);obtain⟨u0,u1,u2,u3,u4,u5,u6,u7⟩:=G3.boxes O1;have hw3:w.heap.size+1<w3.heap.size:=uL u5;clear x3;go_wp2_with fail;refine bodyPost_ret (v:=eK 1 0) (by simp [results,Tryz.results234,go_sem,u5,u6]) rfl ?_;exact⟨x,1,0,rfl,.inl ⟨OK,rfl,rfl,rfl⟩,GOk.done O1 G3 1 0,cV X3 V0 1 0⟩
theorem qX.is[Inhabited uZ]{B g:Nat}{x:Hp}{a b c:Nat}{v:World}{e:Ending}(h:qX B g x a b c n k v e w')(ok:eD (k:Int) a b c n=true):b7n B g x (k:Int) a b c n v e w':=by
 obtain⟨y,cd,nm,h1,h2,h3,h4⟩:=h;exact⟨y,cd,nm,h1,.inr ⟨ok,by simpa using uH h2⟩,h3,h4⟩
theorem l5do_ok[p:Inhabited uZ](B g:Nat)(x:Hp)(a b c:Nat)(n:Int)(w:World)(h:GOk B w g x)(s:Snd x)(v:World)(hv:v.heap.size<=B)(hx:Ext v w):
  ∀k:Nat,1<=k->k<=24->eD (k:Int) a b c n=true->Calls Tryz.prog 234 #[.pointer (some ⟨g,0,none⟩),tJ (k:Int) a b c n] w λe w'=>qX B g x a b c n k v e w'
 | 0,h1,_,_=>absurd h1 (by omega)
 | 1,_,_,ok=>by have h9:=dL ok;simp [zE,zH,zJ,tH] at h9;exact l5do_1 B g x a b c n w h s ok (by omega) (by omega) (by omega) v hv hx
 | 2,_,_,ok=>by have h9:=dL ok;simp [zE,zH,zJ,zY,tH] at h9;exact a5h B g x 2 2 a b c n w (by simp) h s ok v hv hx (by omega) (by omega)
 | 3,_,_,ok=>by have h9:=dL ok;simp [zE,zH,zJ,zY,tH] at h9;exact a5h B g x 3 3 a b c n w (by simp) h s ok v hv hx (by omega) (by omega)
 | 4,_,_,ok=>by have h9:=dL ok;simp [zE,zH,zJ,zY,tH] at h9;exact a5h B g x 4 4 a b c n w (by simp) h s ok v hv hx (by omega) (by omega)
 | 5,_,_,ok=>by have h9:=dL ok;simp [zE,zH,zJ,zY,tH] at h9;exact a1r B g x 5 5 a b c n w (by simp) h ok v hx (λ_ w1 G X=>c9d B g x a b c n w1 G s (by omega) (by omega) v hv X)
 | 6,_,_,ok=>by have h9:=dL ok;simp [zE,zH,zJ,zY,tH] at h9;exact a1r B g x 6 6 a b c n w (by simp) h ok v hx (λ_ w1 G X=>c9e B g x a b c n w1 G s (by omega) (by omega) v hv X)
 | 7,_,_,ok=>by have h9:=dL ok;simp [zE,zH,zJ,zY,tH] at h9;exact a1r B g x 7 7 a b c n w (by simp) h ok v hx (λ_ w1 G X=>c9f B g x a b c n w1 G s (by omega) (by omega) v hv X)
 | 8,_,_,ok=>by have h9:=dL ok;simp [zE,zH,zJ,zY,tH] at h9;exact a1r B g x 8 8 a b c n w (by simp) h ok v hx (λ_ w1 G X=>c9g B g x a b c n w1 G s (by omega) (by omega) v hv X)
 | 9,_,_,ok=>by have h9:=dL ok;simp [zE,zH,zJ,zY,tH] at h9;exact l5do_9 B g x a b c n w h s ok (by omega) (by omega) v hv hx
 | 10,_,_,ok=>by have h9:=dL ok;simp [zE,zH,zJ,zY,tH] at h9;exact a1r B g x 10 10 a b c n w (by simp) h ok v hx (λ_ w1 G X=>a5i B g x 10 10 a b c n w1 G s (by omega) v X (λhk=>.inl ⟨hk,rfl,rfl,rfl⟩) (λhk=>c6i B g x a b c n w1 G s (by omega) hk v hv X))
 | 11,_,_,ok=>by have h9:=dL ok;simp [zE,zH,zJ,zY,tH] at h9;exact a1r B g x 11 11 a b c n w (by simp) h ok v hx (λ_ w1 G X=>a5i B g x 11 11 a b c n w1 G s (by omega) v X (λhk=>.inl ⟨hk,rfl,rfl,rfl⟩) (λhk=>c6h B g x a b c n w1 G s (by omega) hk v hv X))
 | 12,_,_,ok=>by have h9:=dL ok;simp [zE,zH,zJ,zY,tH] at h9;exact a1r B g x 12 12 a b c n w (by simp) h ok v hx (λ_ w1 G X=>a5i B g x 12 12 a b c n w1 G s (by omega) v X (λhk=>.inl ⟨hk,rfl,rfl,rfl⟩) (λhk=>c6j B g x a b c n w1 G s (by omega) hk v hv X))
 | 13,_,_,ok=>by have h9:=dL ok;simp [zE,zH,zJ,zY,tH] at h9;exact a5h B g x 13 13 a b c n w (by simp) h s ok v hv hx (by omega) (by omega)
 | 14,_,_,ok=>by have h9:=dL ok;simp [zE,zH,zJ,zY,tH] at h9;exact a5h B g x 14 14 a b c n w (by simp) h s ok v hv hx (by omega) (by omega)
 | 15,_,_,ok=>by have h9:=dL ok;simp [zE,zH,zJ,zY,tH] at h9;exact a5h B g x 15 15 a b c n w (by simp) h s ok v hv hx (by omega) (by omega)
 | 16,_,_,ok=>by have h9:=dL ok;simp [zE,zH,zJ,zY,tH] at h9;exact a1r B g x 16 16 a b c n w (by simp) h ok v hx (λ_ w1 G X=>a5i B g x 16 16 a b c n w1 G s (by omega) v X (λhk=>.inl ⟨hk,rfl,rfl,rfl⟩) (λhk=>c6f B g x a b c n w1 G s (by omega) hk v X))
 | 17,_,_,ok=>by have h9:=dL ok;simp [zE,zH,zJ,zY,tH] at h9;exact a1r B g x 17 17 a b c n w (by simp) h ok v hx (λ_ w1 G X=>a5i B g x 17 17 a b c n w1 G s (by omega) v X (λhk=>.inl ⟨hk,rfl,rfl,rfl⟩) (λhk=>c6g B g x a b c n w1 G s (by omega) hk v X))
 | 18,_,_,ok=>by have h9:=dL ok;simp [zE,zH,zJ,zY,tH] at h9;exact a6e B g x 18 18 a b c n w (by simp) h s ok v hv hx (by omega) (by omega)
 | 19,_,_,ok=>by have h9:=dL ok;simp [zE,zH,zJ,zY,tH] at h9;exact a6e B g x 19 19 a b c n w (by simp) h s ok v hv hx (by omega) (by omega)
 | 20,_,_,ok=>by have h9:=dL ok;simp [zE,zH,zJ,zY,tH] at h9;exact a6e B g x 20 20 a b c n w (by simp) h s ok v hv hx (by omega) (by omega)
 | 21,_,_,ok=>by have h9:=dL ok;simp [zE,zH,zJ,zY,tH] at h9;exact a6e B g x 21 21 a b c n w (by simp) h s ok v hv hx (by omega) (by omega)
 | 22,_,_,ok=>by have h9:=dL ok;simp [zE,zH,zJ,zY,tH] at h9;exact a6e B g x 22 22 a b c n w (by simp) h s ok v hv hx (by omega) (by omega)
 | 23,_,_,ok=>by have h9:=dL ok;simp [zE,zH,zJ,zY,tH] at h9;exact a6e B g x 23 23 a b c n w (by simp) h s ok v hv hx (by omega) (by omega)
 | 24,_,_,ok=>by have h9:=dL ok;simp [zE,zH,zJ,zY,tH] at h9;exact a6e B g x 24 24 a b c n w (by simp) h s ok v hv hx (by omega) (by omega)
 | k+25,_,h2,_=>absurd h2 (by omega)
theorem c9r[p:Inhabited uZ](B g:Nat)(x:Hp)(op a b c n:Int)(w:World)(h:GOk B w g x)(s:Snd x)(v:World)(hv:v.heap.size<=B)(hx:Ext v w):
  Calls Tryz.prog 234 #[.pointer (some ⟨g,0,none⟩),tJ op a b c n] w λe w'=>b7n B g x op a b c n v e w':=by
 cases ok:eD op a b c n
 ·exact l5do_no B g x op a b c n w h ok v hx
 ·have hb:=dL ok;obtain⟨k,rfl⟩:∃k:Nat,op=k:=⟨op.toNat,by omega⟩;obtain⟨a,rfl⟩:∃k:Nat,a=k:=⟨a.toNat,by omega⟩;obtain⟨b,rfl⟩:∃k:Nat,b=k:=⟨b.toNat,by omega⟩;obtain⟨c,rfl⟩:∃k:Nat,c=k:=⟨c.toNat,by omega⟩;exact(l5do_ok B g x a b c n w h s v hv hx k (by omega) (by omega) ok).mono λ_ _ hh=>hh.is ok
theorem c6y{wr:World}{xs:List Int}(hlt:k<xs.length)(hm:∀j (hj:j<xs.length),j<k->yD wr w.heap.size (0+j*1) xs[j])(ho:∀j,j<xs.length*1->yZ wr w.heap.size j)(hbl:Ext w wr)(hnf:Nf1 w.heap.size wr):
  let W:=wr.setCell ⟨w.heap.size,k,none⟩ (iv xs[k])
  (∀j (hj:j<xs.length),j<k+1->yD W w.heap.size (0+j*1) xs[j])/\(∀j,j<xs.length*1->yZ W w.heap.size j)/\Ext w W/\Nf1 w.heap.size W:=by
 intro W;refine⟨λj hj hjk=>?_,λj hj=>(ho j hj).set _ _,hbl.setCell (Nat.le_refl _) _,hnf.set _ _⟩;by_cases e:j=k
 ·subst e;show W.cell? _=_;have:=(ho j (by omega)).same (iv xs[j])
  simpa using this
 ·show W.cell? _=_;rw[uC _ (Or.inr (by omega))];exact hm j hj (by omega)
structure b4o(w:World)(bs n k:Nat)(p:Nat->Bool):Prop where
 lt:bs<w.heap.size
 s:∀i,i<n->∃u,w.cell? ⟨bs,i,none⟩=some (.bool u)/\(i<k->u=p i)
 f:∀i,i<n->w.frozen? ⟨bs,i,none⟩=false
theorem b4o.ext{n:Nat}{p:Nat->Bool}(h:b4o w bs n k p)(e:Ext w w'):b4o w' bs n k p:=
 ⟨Nat.lt_of_lt_of_le h.lt e.size,λi hi=>let ⟨u,hu,hk⟩:=h.s i hi;⟨u,e.keep hu,hk⟩,λi hi=>by rw[e.frozen (p:=⟨bs,i,none⟩) h.lt];exact h.f i hi⟩
theorem b4o.set{n:Nat}{p:Nat->Bool}(h:b4o w bs n k p)(hk:k<n):b4o (w.setCell ⟨bs,k,none⟩ (.bool (p k))) bs n (k+1) p:=by
 obtain⟨u,hu,_⟩:=h.s k hk;refine⟨by have:=h.lt;simpa [World.setCell] using this,λi hi=>?_,λi hi=>by rw[World.frozen?_setCell];exact h.f i hi⟩;by_cases q:i=k
 ·subst q;exact⟨p i,World.cell?_setCell_same _ _ _ hu,λ_=>rfl⟩
 ·obtain⟨u2,hu2,hk2⟩:=h.s i hi;exact⟨u2,by rw[uC _ (.inr (λe=>q e.symm))];exact hu2,λhlt=>hk2 (by omega)⟩
theorem b6g(x:Hp)(b r1:Nat)(Mt:List Nat)(w:World){ac:Nat->Option Addr}{kn:Nat}(bn on:Nat)(h:VNt w b x ar kr ac (some ⟨bn,on,none⟩) kn)(hm:zQ w r1 bn (Mt.map (λi=>on+i*2)))(hr:r1<w.heap.size)(hn8:x.cells.length<=8000):
  Calls Tryz.prog 87 #[.pointer (some ⟨b,0,none⟩),.map (some r1)] w λe w'=>e=.returned (.slice (some ⟨w.heap.size,0,none⟩) x.cells.length x.cells.length)/\b4o w' w.heap.size x.cells.length x.cells.length (λi=>decide (i∈Mt))/\Ext w w':=by
 have n13:=h.n13;have hb:b<w.heap.size:=uL n13;have HV:=uU h;have HM:=uU hm;obtain⟨z,hmk,hz⟩:=b6o x.cells.length (by omega) w
 have S0:=uU (show b4o (w.alloc (.cells z 4)) w.heap.size x.cells.length 0 (λi=>decide (i∈Mt)) from by
  have S:=Sn.start w x.cells.length 4;rw[<-hz] at S;exact⟨S.hb.2,λi hi=>⟨_,S.s i hi,λh=>by omega⟩,S.f⟩)
 have c13:=((Ext.refl w).alloc (.cells z 4)).keep n13;clear h hm hz;go_enter Tryz.func87,Tryz.ntmps87;go_wp2_with fail;go_loopw [18] (λi wr=>∃(k:Nat),k<=x.cells.length/\i=.int .i64 k/\Hid (b4o wr w.heap.size x.cells.length k (λi=>decide (i∈Mt)))/\Ext w wr) (λi _=>x.cells.length-(intOf i).toNat)
 case atStart=>exact⟨0,Nat.zero_le _,rfl,S0,(Ext.refl w).alloc _⟩
 case round=>
  clear n13 c13 S0 hmk;obtain⟨k,hk,rfl,hbr,hbl⟩:=hrel;by_cases hlt:k<x.cells.length
  ·have n13:=(HV.ext hbl).n13;have hk0:(0:Int)<=(k:Int):=by omega
   have hk1:(k:Int)<(x.cells.length:Int):=by omega
   have M2:=uU (HM.block (hbl.block r1 hr));go_wp2_with fail;refine(a5x r1 bn (on+k*2) _ _ M2).mono ?_;rintro e w1 ⟨rfl,hq⟩;have x2:=hbl.trans hq;have E:decide (on+k*2∈Mt.map (λi=>on+i*2))=decide (k∈Mt):=by rw[Bool.eq_iff_iff];simp only [decide_eq_true_eq];exact a4n
   rw[E];have B2:=uU (hbr.ext hq);obtain⟨u,hu,_⟩:=B2.s k hlt;have hfz:=B2.f k hlt;have R:=uU (And.intro (B2.set hlt) (x2.setCell (p:=⟨w.heap.size,k,none⟩) (Nat.le_refl _) (.bool (decide (k∈Mt)))));clear n13 E;generalize decide (k∈Mt)=d at R ⊢;go_wp2_with fail;go_roundw
   case rel=>exact⟨k+1,by omega,by go_num,R.1,R.2⟩
   case measure=>simp [intOf];omega
  ·have hk2:k=x.cells.length:=by omega
   subst hk2;go_wp2_with fail;go_ret;exact⟨rfl,hbr,hbl⟩
def HAns(x:Hp)(w w':World)(v:Value):Prop:=(¬eU x 0/\v=.slice none 0 0)\/(eU x 0/\∃(bs:Nat) (p:Nat->Bool),v=.slice (some ⟨bs,0,none⟩) x.cells.length x.cells.length/\w.heap.size<=bs/\b4o w' bs x.cells.length x.cells.length p/\∀i,p i=true↔dK x i)
theorem b5c(x:Hp)(w:World)(hR:SlW w (.slice ar x.regs.length kr) x.regs)(hC:SlC w (.slice ac x.cells.length kc) x.cells)(hG:SlI w (.slice ag x.gray.length kg) x.gray)(hcap:a2k w x ac):
  Calls Tryz.prog 39 #[x.v (.slice ar x.regs.length kr) (.slice ac x.cells.length kc) (.slice ag x.gray.length kg)] w λe w'=>∃v,Hid (e=.returned v)/\Hid (HAns x w w' v)/\Ext w w':=by
 have x1:=(Ext.refl w).alloc (.cells #[iv x.room,iv x.used,iv x.born,.slice ar x.regs.length kr,.slice ac x.cells.length kc,iv x.phase,iv x.hand,iv x.sub,.slice ag x.gray.length kg,iv x.per,iv x.start,iv x.rounds,iv x.forced] 34);have S1:=uU (SlW.ext x1 hR);have S2:=uU (SlC.ext x1 hC);have S3:=uU (SlI.ext x1 hG);have S4:=uU (hcap.extS hC x1);clear hR hC hG hcap;go_enter Tryz.func39,Tryz.ntmps39;go_wp2_with fail;refine(a5d x _ S1 S2 S3 S4).mono ?_;rintro e w2 ⟨hq,hor⟩;have x2:=x1.trans hq;rcases uH hor with⟨hn,rfl⟩ | ⟨hok,b,an,kn,rfl,hv,han⟩
 ·have N:=uU hn;clear hor hn;go_wp2_with fail;go_ret;exact⟨_,rfl,.inl ⟨N,rfl⟩,x2⟩
 ·obtain⟨bn,on,rfl⟩:=uH han;have OK:=uU hok;have V:=uU hv;clear hor hok hv han;go_wp2_with fail;refine(b3r x b _ bn on V.vn OK.all.2.1 OK.all.2.2.2 OK.n8 OK.p200 (λw1 h1=>a3r x b w1 bn on h1 OK.n8)).mono ?_;rintro e w3 ⟨rfl,Mt,hm,hlt,hr,hq3⟩;have x3:=x2.trans hq3;have M:=uU hm;clear hm;go_wp2_with fail;refine(b6g x b w2.heap.size Mt _ bn on (V.ext hq3).vn M hlt OK.n8).mono ?_;rintro e w4 ⟨rfl,hbr,hq4⟩;have x4:=x3.trans hq4;have B:=uU hbr;clear hbr;go_wp2_with fail;go_ret;exact⟨_,rfl,.inr ⟨OK,w3.heap.size,_,rfl,x3.size,B,λi=>by simpa using uH hr i⟩,x4⟩
def RAns(x:Hp)(w w':World)(v:Value):Prop:=(¬eU x 0/\v=.slice none 0 0)\/(eU x 0/\∃(bs:Nat) (p:Nat->Bool),v=.slice (some ⟨bs,0,none⟩) x.cells.length x.cells.length/\w.heap.size<=bs/\b4o w' bs x.cells.length x.cells.length p/\∀i,p i=true↔cY x i)
theorem b5d(x:Hp)(w:World)(hR:SlW w (.slice ar x.regs.length kr) x.regs)(hC:SlC w (.slice ac x.cells.length kc) x.cells)(hG:SlI w (.slice ag x.gray.length kg) x.gray)(hcap:a2k w x ac):
  Calls Tryz.prog 37 #[x.v (.slice ar x.regs.length kr) (.slice ac x.cells.length kc) (.slice ag x.gray.length kg)] w λe w'=>∃v,Hid (e=.returned v)/\Hid (RAns x w w' v)/\Ext w w':=by
 have x1:=(Ext.refl w).alloc (.cells #[iv x.room,iv x.used,iv x.born,.slice ar x.regs.length kr,.slice ac x.cells.length kc,iv x.phase,iv x.hand,iv x.sub,.slice ag x.gray.length kg,iv x.per,iv x.start,iv x.rounds,iv x.forced] 34);have S1:=uU (SlW.ext x1 hR);have S2:=uU (SlC.ext x1 hC);have S3:=uU (SlI.ext x1 hG);have S4:=uU (hcap.extS hC x1);clear hR hC hG hcap;go_enter Tryz.func37,Tryz.ntmps37;go_wp2_with fail;refine(a5d x _ S1 S2 S3 S4).mono ?_;rintro e w2 ⟨hq,hor⟩;have x2:=x1.trans hq;rcases uH hor with⟨hn,rfl⟩ | ⟨hok,b,an,kn,rfl,hv,han⟩
 ·have N:=uU hn;clear hor hn;go_wp2_with fail;go_ret;exact⟨_,rfl,.inl ⟨N,rfl⟩,x2⟩
 ·obtain⟨bn,on,rfl⟩:=uH han;have OK:=uU hok;have V:=uU hv;clear hor hok hv han;go_wp2_with fail;refine(b9c x b _ bn on V.vn OK.all.2.1 OK.all.2.2.2 OK.n8 OK.p200 (λw1 h1=>a3r x b w1 bn on h1 OK.n8)).mono ?_;rintro e w3 ⟨rfl,Mt,hm,hlt,hr,hq3⟩;have x3:=x2.trans hq3;have M:=uU hm;clear hm;go_wp2_with fail;refine(b6g x b w2.heap.size Mt _ bn on (V.ext hq3).vn M hlt OK.n8).mono ?_;rintro e w4 ⟨rfl,hbr,hq4⟩;have x4:=x3.trans hq4;have B:=uU hbr;clear hbr;go_wp2_with fail;go_ret;exact⟨_,rfl,.inr ⟨OK,w3.heap.size,_,rfl,x3.size,B,λi=>by simpa using uH hr i⟩,x4⟩
end Go.Proofs.YtddkhnclmeikfaaGreat
namespace Go.Proofs.YtddkhnclmeikfaaGreat
open Go.RowKit Go.Shelf
attribute [local go_sem ↓] Go.wp_at_zero Go.wp_at_succ
attribute [local go_sem] Oper.semAt_some
variable{x:Hp}{L:List Nat}{ar:Option Addr}{kr kn k:Nat}{ac:Nat->Option Addr}{W:World}{v:Value}
def a5j(W W':World):Prop:=∀(q:Nat) (o:Obj),W.heap[q]?=some o->o.isCells=true->W'.heap[q]?=some o
theorem a5j.trans{A B C:World}(h:a5j A B)(k:a5j B C):a5j A C:=λq o a b=>k q o (h q o a b) b
theorem a5j.cell{W':World}(h:a5j W W'){p:Addr}(hc:W.cell? p=some v):W'.cell? p=some v:=by
 obtain⟨o,ho,hi⟩:=cells_of_cell hc;rw[World.cell?_of_block ((h _ _ ho hi).trans ho.symm)];exact hc
theorem a5j.put(W:World)(l:Nat)(o o':Obj)(hl:W.heap[l]?=some o)(hc:o.isCells=false):a5j W (W.putObj l o'):=λq p hq hp=>by
 have:q≠l:=λe=>by subst e;rw[hl] at hq;cases hq;rw[hc] at hp;cases hp
 rw[World.putObj_heap_other this];exact hq
def IsS(x:Hp)(L:List Nat):Prop:=(∀i,i∈L↔i<x.cells.length/\cQ (x.c i))/\SrtN x L
def tY(x:Hp)(L:List Nat):List Nat:=L.filter (λi=>(x.c i).last == 2)
theorem dueF_no(hk:k<L.length)(h:((x.c L[k]).last == 2)=false):tY x (L.take (k+1))=tY x (L.take k):=by
 rw[List.take_succ_eq_append_getElem hk,tY,List.filter_append];simp [h,tY]
theorem d0e(hk:k<L.length)(h:((x.c L[k]).last == 2)=true):tY x (L.take (k+1))=tY x (L.take k)++[L[k]]:=by
 rw[List.take_succ_eq_append_getElem hk,tY,List.filter_append];simp [h,tY]
theorem d0f(k:Nat):tY x (L.take k) <+: tY x L:=by
 have:tY x L=tY x (L.take k)++tY x (L.drop k):=by rw[tY,tY,tY,<-List.filter_append,List.take_append_drop]
 rw[this];exact List.prefix_append _ _
theorem d0g:(tY x L).length<=L.length:=List.length_filter_le _ _
theorem d0h(h:IsS x L)(e:tY x L=[]):qV x x.cells.length (-1):=.inl ⟨rfl,λi hi hd=>by
 have:i∈tY x L:=List.mem_filter.2 ⟨(h.1 i).2 ⟨hi,.inr hd⟩,by simpa using hd⟩;rw[e] at this;cases this⟩
theorem b6h(h:IsS x L){y:Nat}(e:[y] <+: tY x L):qV x x.cells.length (y:Int)/\y<x.cells.length:=by
 obtain⟨t,e⟩:=e;have hp:(tY x L).Pairwise (λa b=>(x.c a).born<=(x.c b).born):=((List.pairwise_iff_getElem (R:=λa b=>(x.c a).born<=(x.c b).born) (l:=L)).2 (λi j hi hj hij=>h.2 i j hi hj hij)).filter _;rw[<-e] at hp;have hy:y∈tY x L:=by rw[<-e];simp
 have hy2:=List.mem_filter.1 hy;have hy3:=(h.1 y).1 hy2.1;refine⟨.inr ⟨y,rfl,hy3.1,by simpa using hy2.2,λj hj dj=>?_⟩,hy3.1⟩;have hj2:j∈tY x L:=List.mem_filter.2 ⟨(h.1 j).2 ⟨hj,.inr dj⟩,by simpa using dj⟩;rw[<-e] at hj2;rcases List.mem_append.1 hj2 with q | q
 ·rw[List.mem_singleton] at q;subst q;omega
 ·exact(List.pairwise_cons.1 hp).1 j q
def SpL(x:Hp)(w:World)(g:Option Addr)(bn on:Nat)(L:List Nat):Prop:=∀k (h:k<L.length),∃gb go bc oc,g=some ⟨gb,go,none⟩/\w.cell? ⟨gb,go+k,none⟩=some (ptr bn (on+L[k]*2))/\w.cell? ⟨bn,on+L[k]*2+1,none⟩=some (.pointer (some ⟨bc,oc,none⟩))/\w.cell? ⟨bc,oc+3,none⟩=some (iv (x.c L[k]).last)
theorem SpL.keep{w w':World}{g:Option Addr}{bn on:Nat}(h:SpL x w g bn on L)(k:a5j w w'):SpL x w' g bn on L:=λi hi=>by
 obtain⟨gb,go,bc,oc,e,a,b,c⟩:=h i hi;exact⟨gb,go,bc,oc,e,k.cell a,k.cell b,k.cell c⟩
theorem due1_in(n:Nat)(hn:1<=n)(l:Nat)(x:Hp)(b Bv:Nat)(W:World)(bn on:Nat)(J Jx:List Nat->World->Prop)(hJ:AbidesFrom W.heap.size J)
  (hY:∀pre y W1,J pre W1->pre.length<8001->YieldAt Fence.wide (n-1) Tryz.prog l #[ptr bn (on+y*2)] W1 λe W'=>
   (e=.returned (.bool true)/\J (pre++[y]) W'/\a5j W1 W')\/(e=.returned (.bool false)/\Jx (pre++[y]) W'))
  (hB:W.cell? ⟨Bv,0,none⟩=some (.pointer (some ⟨b,0,none⟩))) (h:VNt W b x ar kr ac (some ⟨bn,on,none⟩) kn) (hn8:x.cells.length<=8000) (h0:J [] W) :
  CallsIn Fence.wide n Tryz.prog 219 #[.func (.yield l) #[] #[],.pointer (some ⟨Bv,0,none⟩)] W λe W'=>(∃v,e=.returned v)/\
   ((∃xs,(∃L,IsS x L/\xs=tY x L)/\J xs W')\/(∃pre,(∃L,IsS x L/\pre <+: tY x L)/\Jx pre W')):=by
 refine callsIn_of_wp Tryz.func219 rfl trivial ?_ rfl;simp only [Tryz.ntmps219,List.size_toArray,List.length_cons,List.length_nil,Nat.reduceAdd,Nat.reduceSub,Array.replicate_succ,Array.replicate_zero,List.push_toArray,List.append_toArray,List.nil_append,List.cons_append]
 gi_wp2_with (refine⟨trivial,?_⟩;gi_at_call 102;refine(callsIn_wide.2 (a9u x b W bn on h hn8)).mono ?_;rintro e w1 ⟨g,cap,L,rfl,hans,hord,x1⟩)
 have IS:=uU (show IsS x L from⟨λi=>hans.2.2 i,hord.1⟩)
 have SL:=uU (show SpL x w1 g bn on L from λk hk=>by
  obtain⟨gb,go,a,c,_⟩:=hans.1 k hk;have hl:=((hans.2.2 L[k]).1 (List.getElem_mem hk)).1;obtain⟨bn',on',bc',oc',e2,e3,_,m1⟩:=(h.ext x1).N L[k] hl;obtain⟨bc,oc,ap,kp,e1,C⟩:=(h.ext x1).H.cell L[k] hl;rw[e1] at e3;cases e2;cases e3;exact⟨gb,go,_,_,a,c,m1,C.p3⟩)
 have J1:=uU (hJ [] W w1 none h0 ⟨x1.os,x1.tape,x1.output,x1.size,λk hk _=>x1.block k hk⟩ (λr e=>by cases e));have hL8:L.length<=8000:=hans.2.1;clear hans hord h0 h hB
 gi_wp2
 gi_loopw [8] (λi wr=>∃k:Nat,k<=L.length/\i=.int .i64 k/\Hid (J (tY x (L.take k)) wr)/\Hid (SpL x wr g bn on L)) (λi _=>L.length-(intOf i).toNat)
 case atStart=>exact⟨0,Nat.zero_le _,rfl,J1,SL⟩
 case round=>
  clear J1 SL;obtain⟨k,hk,rfl,hjs,hsl⟩:=hrel;by_cases hlt:k<L.length
  ·obtain⟨gb,go,bc,oc,rfl,a,b1,c⟩:= hsl k hlt;have hk0:(0:Int)<=(k:Int):=by omega
   have hk1:(k:Int)<(L.length:Int):=by omega
   cases t:((x.c L[k]).last == 2)
   ·have D:=uU (show J (tY x (L.take (k+1))) wr by rw[dueF_no hlt t];exact hjs);obtain⟨j,ej⟩:∃j,j=L[k]:=⟨_,rfl⟩;rw[<-ej] at a b1 c t;clear ej
    gi_wp2
    refine⟨λ_ h=>(by cases h),?_⟩
    gi_wp2
    go_roundw
    case rel=>exact⟨k+1,hlt,by go_num,D,hsl⟩
    case measure=>simp [intOf];omega
   ·have T:=uU (d0e hlt t);obtain⟨fn,tmps,assign,body,hy,hR⟩:=hY _ L[k] wr hjs (by have:=@d0g x (L.take k);have:=List.length_take_le k L;omega);obtain⟨j,ej⟩:∃j,j=L[k]:=⟨_,rfl⟩;rw[<-ej] at a b1 c t hy hR T;clear ej
    gi_wp2
    refine hR.mono ?_;rintro e W3 (⟨rfl,hJ3,hk3⟩ | ⟨rfl,hJx3⟩)
    ·have R:=uU (show J (tY x (L.take (k+1))) W3/\SpL x W3 (some ⟨gb,go,none⟩) bn on L from⟨by rw[uH T];exact hJ3,hsl.keep hk3⟩);clear hJ3 hk3
     gi_wp2
     go_roundw
     case rel=>exact⟨k+1,hlt,by go_num,R.1,R.2⟩
     case measure=>simp [intOf];omega
    ·have R:=uU (show ∃pre,(∃L,IsS x L/\pre <+: tY x L)/\Jx pre W3 from⟨_,⟨L,IS,by rw[<-uH T];exact d0f _⟩,hJx3⟩);clear hJx3
     gi_wp2
     refine bodyPost_ret (results_none rfl _ _ _) rfl ?_;exact⟨⟨_,rfl⟩,.inr R⟩
  ·have hk2:k=L.length:=by omega
   subst hk2;have R:=uU (show ∃xs,(∃L,IsS x L/\xs=tY x L)/\J xs wr from⟨_,⟨L,IS,rfl⟩,by have:=uH hjs;rw[List.take_length] at this;exact this⟩)
   gi_wp2
   go_end0
   exact⟨⟨_,rfl⟩,.inl R⟩
theorem due_in(n:Nat)(p0:Option Addr)(w:World):
  CallsIn Fence.wide n Tryz.prog 150 #[.pointer p0] w λe w'=>e=.returned (.func (.func 219) #[] #[.pointer (some ⟨w.heap.size,0,none⟩)])/\w'=w.alloc (.cells #[.pointer p0] 101):=by
 refine callsIn_of_wp Tryz.func150 rfl trivial ?_ rfl;simp only [Tryz.ntmps150,List.size_toArray,List.length_cons,List.length_nil,Nat.reduceAdd,Nat.reduceSub,Array.replicate_succ,Array.replicate_zero,List.push_toArray,List.append_toArray,List.nil_append,List.cons_append]
 gi_wp2
 go_ret;exact⟨rfl,rfl⟩
theorem box_of{B:Nat}{t:TypeId}(h:W.heap[B]?=some (.cells #[v] t (0,0))):W.cell? ⟨B,0,none⟩=some v/\W.frozen? ⟨B,0,none⟩=false:=by
 constructor <;> simp [World.cell?,World.frozen?,h]
theorem c4b(W:World)(v:Value)(t:TypeId):(W.alloc (.cells #[v] t)).cell? ⟨W.heap.size,0,none⟩=some v/\(W.alloc (.cells #[v] t)).frozen? ⟨W.heap.size,0,none⟩=false:=
 box_of (World.alloc_heap_new W _)
theorem c6z(n:Nat)(hn:1<=n)(x:Hp)(b Bv:Nat)(w:World)(bn on:Nat)(hB:w.cell? ⟨Bv,0,none⟩=some (.pointer (some ⟨b,0,none⟩)))(h:VNt w b x ar kr ac (some ⟨bn,on,none⟩) kn)(hn8:x.cells.length<=8000):
  SeqStopsK Fence.wide n Tryz.prog 219 #[.pointer (some ⟨Bv,0,none⟩)] (λy:Nat=>#[ptr bn (on+y*2)]) a5j (λys=>∃L,IsS x L/\ys=tY x L) (λpre=>∃L,IsS x L/\pre <+: tY x L) 8001 w:=λl J Jx W hW hJ _ hY h0=>
 due1_in n hn l x b Bv W bn on J Jx hJ hY (Ext.keep hW hB) (h.ext hW) hn8 h0
theorem c0v(x:Hp)(b:Nat)(w:World)(bn on:Nat)(h:VNt w b x ar kr ac (some ⟨bn,on,none⟩) kn)(hn8:x.cells.length<=8000):
  Calls Tryz.prog 91 #[.pointer (some ⟨b,0,none⟩)] w λe w'=>∃v,e=.returned v/\((v=.pointer none/\qV x x.cells.length (-1))\/∃y:Nat,v=ptr bn (on+y*2)/\qV x x.cells.length y/\y<x.cells.length)/\Ext w w':=by
 refine(callsIn_wide (n:=3)).1 ?_;refine callsIn_of_wp_marks Tryz.func91 rfl trivial ?_ rfl;simp only [Tryz.ntmps91,List.size_toArray,List.length_cons,List.length_nil,Nat.reduceAdd,Nat.reduceSub,Array.replicate_succ,Array.replicate_zero,List.push_toArray,List.append_toArray,List.nil_append,List.cons_append]
 gi_wp2_with (refine⟨trivial,?_⟩;gi_at_call 150;refine(due_in _ _ _).mono ?_;rintro e w' ⟨rfl,rfl⟩)
 have c0:=c4b w (.pointer none) 126;have c1:=c4b (w.alloc (.cells #[.pointer none] 126)) (.pointer (some ⟨b,0,none⟩)) 101;simp only [World.size_alloc] at c1;have hB0:Below w.heap.size w ((w.alloc (.cells #[.pointer none] 126)).alloc (.cells #[.pointer (some ⟨b,0,none⟩)] 101)):=((Below.refl _ w).alloc (Nat.le_refl _) _).alloc (by simp) _
 refine wpIn_rangeFunc_ownF rfl (by decide) (gf:=219) (lb:=#[.pointer (some ⟨w.heap.size+1,0,none⟩)]) rfl trivial (enters_of Tryz.func219 (by kernel_rfl) rfl)
  (c6z 2 (by decide) x b (w.heap.size+1) _ bn on c1.1 (h.ext hB0) hn8) a5j.trans (λW l o o' _ h1 h2 _=>a5j.put W l o o' h1 h2) (Below.refl _ _) (λ_=>rfl)
  (λpre W=>(pre=[]/\W.cell? ⟨w.heap.size,0,none⟩=some (.pointer none)/\W.frozen? ⟨w.heap.size,0,none⟩=false)/\Below w.heap.size w W)
  (λc pre W=>(c=.ret/\∃y:Nat,pre=[y]/\W.cell? ⟨w.heap.size,0,none⟩=some (ptr bn (on+y*2)))/\Below w.heap.size w W)
  (OwnFrom.and (Own.from (λs A B row hs hg hr=>⟨hs.1,cell_kept hs.2.1 hg hr,(frozen_kept hs.2.1 hg hr).trans hs.2.2⟩) _) (ownFrom_below (Nat.le_refl _) (by simp;omega)))
  (λc=>OwnFrom.and (Own.from (λs A B row hs hg hr=>⟨hs.1,let ⟨y,e,q⟩:=hs.2;⟨y,e,cell_kept q hg hr⟩⟩) _) (ownFrom_below (Nat.le_refl _) (by simp;omega)))
  ⟨⟨rfl,((Ext.refl _).alloc _).keep c0.1,((dH ((Ext.refl (w.alloc (.cells #[.pointer none] 126))).alloc _)).2 _ 0 (by simp)).trans c0.2⟩,hB0⟩
  (λy=>{ tmps:=#[.pointer (some ⟨b,0,none⟩),undef,.pointer (some ⟨w.heap.size,0,none⟩),ptr bn (on+y*2),.pointer (some ⟨b,0,none⟩),.func (.func 219) #[] #[.pointer (some ⟨w.heap.size+1,0,none⟩)],ptr bn (on+y*2),undef],defers:=[] }) ?assign ?body ?done ?stop
 case assign=>
  intro l x W K hK
  gi_wp2
  exact hK
 case body=>
  rintro l pre y W ⟨⟨rfl,hcr,hfr⟩,hB⟩ _
  gi_wp2
  exact⟨KeepsOthers.setCell _ _ _,⟨rfl,y,rfl,World.cell?_setCell_same' _ _ _ (by rw[hcr];rfl)⟩,hB.setCell (p:=⟨w.heap.size,0,none⟩) (Nat.le_refl _) _⟩
 case done=>
  rintro D ys W hD ⟨L,hL,rfl⟩ ⟨⟨hne,hcr,hfr⟩,hB⟩ hK
  gi_wp2
  have hK':=(KeepsOthers.setCell W ⟨w.heap.size,0,none⟩ (.pointer none)).same D _ hK rfl;refine⟨by simp,.inl ⟨_,_,rfl,run_takeDeferred hK',?_⟩⟩;have hc5:=cell_kept (World.cell?_setCell_same' W ⟨w.heap.size,0,none⟩ (.pointer none) (by rw[hcr];rfl)) (grownBy_putObj' _ D (.deferred none)) (λr e=>by cases e;exact⟨_,hK',rfl⟩);refine⟨.pointer none,?_,_,rfl,.inl ⟨rfl,d0h hL hne⟩,(hB.setCell (p:=⟨w.heap.size,0,none⟩) (Nat.le_refl _) _).trans (belowK_b (w:=w) (Nat.le_refl _) _ D _ _ (by simp at hD;omega) hK' rfl rfl)⟩;simp [results,Tryz.f91,go_sem,hc5]
 case stop=>
  rintro D c pre W hD ⟨L,hL,hpre⟩ ⟨⟨rfl,y,rfl,hcr⟩,hB⟩ hK
  gi_wp2
  refine⟨by simp,.inl ⟨_,_,rfl,run_takeDeferred hK,?_⟩⟩;have hc5:=cell_kept hcr (grownBy_putObj' _ D (.deferred none)) (λr e=>by cases e;exact⟨_,hK,rfl⟩);refine⟨ptr bn (on+y*2),?_,_,rfl,.inr ⟨y,rfl,(b6h hL hpre).1,(b6h hL hpre).2⟩,hB.trans (belowK_b (w:=w) (Nat.le_refl _) W D _ _ (by simp at hD;omega) hK rfl rfl)⟩;simp [results,Tryz.f91,go_sem,hc5]
end Go.Proofs.YtddkhnclmeikfaaGreat
namespace Go.Proofs.YtddkhnclmeikfaaGreat
open Go.RowKit
attribute [local go_sem ↓] Go.wp_at_zero Go.wp_at_succ
attribute [local go_sem] Oper.semAt_some
variable{ar ac ag:Option Addr}{kr kc kg:Nat}
theorem b2g(x:Hp)(w:World)(hR:SlW w (.slice ar x.regs.length kr) x.regs)(hC:SlC w (.slice ac x.cells.length kc) x.cells)(hG:SlI w (.slice ag x.gray.length kg) x.gray)(hcap:a2k w x ac):
  Calls Tryz.prog 42 #[x.v (.slice ar x.regs.length kr) (.slice ac x.cells.length kc) (.slice ag x.gray.length kg)] w λe w'=>∃r:Int,Hid (e=.returned (.int .i64 r))/\Hid (a6o x r)/\Ext w w':=by
 have x1:=(Ext.refl w).alloc (.cells #[iv x.room,iv x.used,iv x.born,.slice ar x.regs.length kr,.slice ac x.cells.length kc,iv x.phase,iv x.hand,iv x.sub,.slice ag x.gray.length kg,iv x.per,iv x.start,iv x.rounds,iv x.forced] 34);have S1:=uU (SlW.ext x1 hR);have S2:=uU (SlC.ext x1 hC);have S3:=uU (SlI.ext x1 hG);have S4:=uU (hcap.extS hC x1);clear hR hC hG hcap;go_enter Tryz.func42,Tryz.ntmps42;go_wp2_with fail;refine(a5d x _ S1 S2 S3 S4).mono ?_;rintro e w2 ⟨hq,hor⟩;have x2:=x1.trans hq;rcases uH hor with⟨hn,rfl⟩ | ⟨hok,b,an,kn,rfl,hv,han⟩
 ·have N:=uU (show a6o x (-1) from .inr ⟨hn,rfl⟩);clear hor hn;go_wp2_with fail;go_ret;exact⟨-1,rfl,N,x2⟩
 ·obtain⟨bn,on,rfl⟩:=uH han;have OK:=uU hok;have V:=uU hv;clear hor hok hv han;go_wp2_with fail;refine(c0v x b _ bn on V.vn OK.n8).mono ?_;rintro e w3 ⟨v,rfl,hr,hq3⟩;have x3:=x2.trans hq3;rcases hr with⟨rfl,hd⟩ | ⟨y,rfl,hd,hy⟩
  ·have D:=uU (show a6o x (-1) from .inl ⟨OK,hd⟩);clear hd;go_wp2_with fail;go_ret;exact⟨-1,rfl,D,x3⟩
  ·have D:=uU (show a6o x y from .inl ⟨OK,hd⟩);obtain⟨bn',on',bc',oc',e2,e3,m0,_⟩:=(V.ext hq3).N y hy;cases e2;clear hd e3;go_wp2_with fail;go_ret;exact⟨y,rfl,D,x3⟩
theorem b2h(x:Hp)(w:World)(hR:SlW w (.slice ar x.regs.length kr) x.regs)(hC:SlC w (.slice ac x.cells.length kc) x.cells)(hG:SlI w (.slice ag x.gray.length kg) x.gray):
  Calls Tryz.prog 43 #[x.v (.slice ar x.regs.length kr) (.slice ac x.cells.length kc) (.slice ag x.gray.length kg)] w λe w'=>∃r:Int,Hid (e=.returned (.int .i64 r))/\Hid (a6o x r)/\Ext w w':=by
 have x1:=(Ext.refl w).alloc (.cells #[iv x.room,iv x.used,iv x.born,.slice ar x.regs.length kr,.slice ac x.cells.length kc,iv x.phase,iv x.hand,iv x.sub,.slice ag x.gray.length kg,iv x.per,iv x.start,iv x.rounds,iv x.forced] 34);have S1:=uU (SlW.ext x1 hR);have S2:=uU (SlC.ext x1 hC);have S3:=uU (SlI.ext x1 hG);have HB:=uU (c3h x w hR hC hG);clear hR hC hG;go_enter Tryz.func43,Tryz.ntmps43;go_wp2_with fail;refine(a7a x _ S1 S2 S3).mono ?_;rintro e w2 ⟨n,rfl,hok2,hq⟩;have x2:=x1.trans hq;have OK2:=uU hok2;have H2:=uU (HB.ext hq);clear hok2 hq;cases t:(n == 0)
 ·have t2:(n != 0)=true:=by simpa using t
  have N:=uU (show a6o x (-1) from .inr ⟨λh=>by have:=eU.uniq h OK2;simp at t;omega,rfl⟩);go_wp2_with fail;go_ret;exact⟨-1,rfl,N,x2⟩
 ·have t2:(n != 0)=false:=by simpa using t
  have Y:=uU (show eU x 0 by have:=uH OK2;simp at t;rw[t] at this;exact this);go_wp2_with fail;refine(b4k x w.heap.size _ H2 Y.n8).mono ?_;rintro e w3 ⟨r,rfl,hr,hq3⟩;have x3:=x2.trans hq3;go_wp2_with fail;go_ret;exact⟨r,rfl,.inl ⟨Y,hr⟩,x3⟩
end Go.Proofs.YtddkhnclmeikfaaGreat
