import Derived.Test.YtddkhnclmeikfaaGreatEl
import Derived.Test.YtddkhnclmeikfaaGreatEl7
import Derived.Test.YtddkhnclmeikfaaGreatEr
set_option maxRecDepth 100000
set_option maxHeartbeats 4000000
namespace Go.Proofs.YtddkhnclmeikfaaGreat
open Go.RowKit
attribute [local go_sem ↓] Go.wp_at_zero Go.wp_at_succ
variable{x y:Hp}{n cd nm op:Int}{b c k B g a m:Nat}{v w:World}
theorem cL{a b c:Int}(h:dU op a b c n=true):(1<=op/\op<=24)/\(0<=a/\a<=zL op)/\(0<=b/\b<=zW op)/\(0<=c/\c<=zK op):=by
 unfold dU at h;simp only [Bool.and_eq_true,decide_eq_true_eq] at h;exact⟨h.1.1,h.2.1,h.2.2.1,h.2.2.2⟩
abbrev b5w[Inhabited uN](B g:Nat)(x:Hp)(op a b c n:Int)(v:World)(e:Ending)(w':World):Prop:=∃(y:Hp) (cd nm:Int),Hid (e=.returned (eY cd nm))/\Hid (DoIs x op a b c n y cd nm)/\Hid (GOk B w' g y)/\Ext v w'
theorem l5do_no[p:Inhabited uN](B g:Nat)(x:Hp)(op a b c n:Int)(w:World)(h:GOk B w g x)(ok:dU op a b c n=false)(v:World)(hx:Ext v w):
  Calls Tryz.prog 234 #[.pointer (some ⟨g,0,none⟩),qZ op a b c n] w λe w'=>b5w B g x op a b c n v e w':=by
 obtain⟨p1,o1,g1⟩:=GOk.enter h (w0:=doW w op a b c n) (((Ext.refl w).alloc _).alloc _);have HG:=uU g1;have O1:=uU o1;have OK:=uU ok;have QA:=uU (λW=>hE op a b c n W);rw[ok] at QA;have V0:=uU (show v.heap.size<=w.heap.size+1 by have:=hx.size;omega);have XD:=uU (show Ext v (doW w op a b c n) from(hx.alloc _).alloc _);clear h o1 g1 ok;go_enter Tryz.func234,Tryz.ntmps234;go_wp2_with fail;refine(QA _).mono ?_;rintro e w1 ⟨rfl,x1⟩;have X1:=uU (XD.trans x1);have G1:=uU (HG.ext x1);clear x1 QA XD HG;go_wp2_with fail;refine(a0i 1 _).mono ?_;rintro e w3 ⟨rfl,x3⟩;have G3:=uU (G1.ext x3);have X3:=uU (X1.trans x3);obtain⟨u0,u1,u2,u3,u4,u5,u6,u7⟩:=G3.boxes O1;have hw3:w.heap.size+1<w3.heap.size:=uL u5;clear x3;go_wp2_with fail;refine bodyPost_ret (v:=eY 1 0) (by simp [results,Tryz.results234,go_sem,u5,u6]) rfl ?_;exact⟨x,1,0,rfl,.inl ⟨OK,rfl,rfl,rfl⟩,GOk.done O1 G3 1 0,uW X3 V0 1 0⟩
theorem dC.is[Inhabited uN]{e:Ending}{w':World}(h:dC B g x a b c n k v e w')(ok:dU (k:Int) a b c n=true):b5w B g x (k:Int) a b c n v e w':=by
 obtain⟨y,cd,nm,h1,h2,h3,h4⟩:=h;exact⟨y,cd,nm,h1,.inr ⟨ok,by simpa using uH h2⟩,h3,h4⟩
theorem l5do_ok[p:Inhabited uN](B g:Nat)(x:Hp)(a b c:Nat)(n:Int)(w:World)(h:GOk B w g x)(s:Snd x)(v:World)(hv:v.heap.size<=B)(hx:Ext v w):
  ∀k:Nat,1<=k->k<=24->dU (k:Int) a b c n=true->Calls Tryz.prog 234 #[.pointer (some ⟨g,0,none⟩),qZ (k:Int) a b c n] w λe w'=>dC B g x a b c n k v e w'
 | 0,h1,_,_=>absurd h1 (by omega)
 | 1,_,_,ok=>l5do_1 B g x a b c n w h s ok (by have h9:=cL ok;simp [zL,qV,zW,zK] at h9;omega) (by have h9:=cL ok;simp [zL,qV,zW,zK] at h9;omega) (by have h9:=cL ok;simp [zL,qV,zW,zK] at h9;omega) v hv hx
 | 2,_,_,ok=>l5do_2 B g x a b c n w h s ok (by have h9:=cL ok;simp [zL,qV,zW,zQ,zK] at h9;omega) v hv hx
 | 3,_,_,ok=>l5do_3 B g x a b c n w h s ok (by have h9:=cL ok;simp [zL,qV,zW,zQ,zK] at h9;omega) v hv hx
 | 4,_,_,ok=>l5do_4 B g x a b c n w h s ok (by have h9:=cL ok;simp [zL,qV,zW,zQ,zK] at h9;omega) (by have h9:=cL ok;simp [zL,qV,zW,zQ,zK] at h9;omega) v hv hx
 | 5,_,_,ok=>l5do_5 B g x a b c n w h s ok (by have h9:=cL ok;simp [zL,qV,zW,zQ,zK] at h9;omega) (by have h9:=cL ok;simp [zL,qV,zW,zQ,zK] at h9;omega) v hv hx
 | 6,_,_,ok=>l5do_6 B g x a b c n w h s ok (by have h9:=cL ok;simp [zL,qV,zW,zQ,zK] at h9;omega) (by have h9:=cL ok;simp [zL,qV,zW,zQ,zK] at h9;omega) v hv hx
 | 7,_,_,ok=>l5do_7 B g x a b c n w h s ok (by have h9:=cL ok;simp [zL,qV,zW,zQ,zK] at h9;omega) (by have h9:=cL ok;simp [zL,qV,zW,zQ,zK] at h9;omega) v hv hx
 | 8,_,_,ok=>l5do_8 B g x a b c n w h s ok (by have h9:=cL ok;simp [zL,qV,zW,zQ,zK] at h9;omega) (by have h9:=cL ok;simp [zL,qV,zW,zQ,zK] at h9;omega) v hv hx
 | 9,_,_,ok=>l5do_9 B g x a b c n w h s ok (by have h9:=cL ok;simp [zL,qV,zW,zQ,zK] at h9;omega) (by have h9:=cL ok;simp [zL,qV,zW,zQ,zK] at h9;omega) v hv hx
 | 10,_,_,ok=>l5do_10 B g x a b c n w h s ok (by have h9:=cL ok;simp [zL,qV,zW,zQ,zK] at h9;omega) v hv hx
 | 11,_,_,ok=>l5do_11 B g x a b c n w h s ok (by have h9:=cL ok;simp [zL,qV,zW,zQ,zK] at h9;omega) v hv hx
 | 12,_,_,ok=>l5do_12 B g x a b c n w h s ok (by have h9:=cL ok;simp [zL,qV,zW,zQ,zK] at h9;omega) v hv hx
 | 13,_,_,ok=>l5do_13 B g x a b c n w h s ok (by have h9:=cL ok;simp [zL,qV,zW,zQ,zK] at h9;omega) (by have h9:=cL ok;simp [zL,qV,zW,zQ,zK] at h9;omega) v hx
 | 14,_,_,ok=>l5do_14 B g x a b c n w h s ok (by have h9:=cL ok;simp [zL,qV,zW,zQ,zK] at h9;omega) v hx
 | 15,_,_,ok=>l5do_15 B g x a b c n w h s ok (by have h9:=cL ok;simp [zL,qV,zW,zQ,zK] at h9;omega) v hx
 | 16,_,_,ok=>l5do_16 B g x a b c n w h s ok (by have h9:=cL ok;simp [zL,qV,zW,zQ,zK] at h9;omega) v hx
 | 17,_,_,ok=>l5do_17 B g x a b c n w h s ok (by have h9:=cL ok;simp [zL,qV,zW,zQ,zK] at h9;omega) v hx
 | 18,_,_,ok=>l5do_18 B g x a b c n w h s ok v hv hx
 | 19,_,_,ok=>l5do_19 B g x a b c n w h s ok (by have h9:=cL ok;simp [zL,qV,zW,zQ,zK] at h9;omega) v hv hx
 | 20,_,_,ok=>l5do_20 B g x a b c n w h s ok v hx
 | 21,_,_,ok=>l5do_21 B g x a b c n w h s ok v hx
 | 22,_,_,ok=>l5do_22 B g x a b c n w h s ok (by have h9:=cL ok;simp [zL,qV,zW,zQ,zK] at h9;omega) v hv hx
 | 23,_,_,ok=>l5do_23 B g x a b c n w h ok v hv hx
 | 24,_,_,ok=>l5do_24 B g x a b c n w h s ok v hv hx
 | k+25,_,h2,_=>absurd h2 (by omega)
theorem c7x[p:Inhabited uN](B g:Nat)(x:Hp)(op a b c n:Int)(w:World)(h:GOk B w g x)(s:Snd x)(v:World)(hv:v.heap.size<=B)(hx:Ext v w):
  Calls Tryz.prog 234 #[.pointer (some ⟨g,0,none⟩),qZ op a b c n] w λe w'=>b5w B g x op a b c n v e w':=by
 cases ok:dU op a b c n
 ·exact l5do_no B g x op a b c n w h ok v hx
 ·have hb:=cL ok;obtain⟨k,rfl⟩:∃k:Nat,op=k:=⟨op.toNat,by omega⟩;obtain⟨a,rfl⟩:∃k:Nat,a=k:=⟨a.toNat,by omega⟩;obtain⟨b,rfl⟩:∃k:Nat,b=k:=⟨b.toNat,by omega⟩;obtain⟨c,rfl⟩:∃k:Nat,c=k:=⟨c.toNat,by omega⟩;exact(l5do_ok B g x a b c n w h s v hv hx k (by omega) (by omega) ok).mono λ_ _ hh=>hh.is ok
theorem b0i{α:Type}(f:α->Bool)(d:α):∀(l:List α) (k:Nat),k<(l.filter f).length->∃j,j<l.length/\(l.filter f).getD k d=l.getD j d/\∀s,(k<((l.take s).filter f).length↔j<s)
 | [],k,h=>by simp at h
 | a::l,k,h=>by
  cases fa:f a
  ·rw[List.filter_cons_of_neg (by simp [fa])] at h ⊢;obtain⟨j,h1,h2,h3⟩:=b0i f d l k h;refine⟨j+1,by simp;omega,by rw[h2];rfl,λs=>?_⟩;cases s with
   | zero=>simp
   | succ s=>
    rw[List.take_succ_cons,List.filter_cons_of_neg (by simp [fa]),h3 s];omega
  ·rw[List.filter_cons_of_pos fa] at h ⊢;cases k with
   | zero=>
    refine⟨0,by simp,rfl,λs=>?_⟩;cases s with
    | zero=>simp
    | succ s=>rw[List.take_succ_cons,List.filter_cons_of_pos fa];simp
   | succ k=>
    obtain⟨j,h1,h2,h3⟩:=b0i f d l k (by simp at h;exact h);refine⟨j+1,by simp;omega,by exact h2,λs=>?_⟩;cases s with
    | zero=>simp
    | succ s=>
     rw[List.take_succ_cons,List.filter_cons_of_pos fa,List.length_cons];have:=h3 s;omega
def b8b(c:Cl)(f:Pr->Bool):Cl:={ c with prs:=c.prs.filter f }
def fltH(x:Hp)(i:Nat)(f:Pr->Bool)(g:Nat)(t:Int):Hp:={ x with cells:=x.cells.set i (b8b (x.c i) f),used:=x.used-g,sub:=t }
theorem a8d(x:Hp)(i:Nat)(f:Pr->Bool)(g:Nat)(t:Int)(hi:i<x.cells.length)(q:Nat):(fltH x i f g t).c q=if q=i then b8b (x.c i) f else x.c q:=Hp.c_set x i (b8b (x.c i) f) hi q
theorem c1k(f:Pr->Bool)(l:List Pr)(n:Nat):((l.take n).filter f).length<=(l.filter f).length/\((l.take n).filter f).length<=n:=by
 constructor
 ·have e:(l.filter f)=((l.take n).filter f)++((l.drop n).filter f):=by rw[<-List.filter_append,List.take_append_drop]
  rw[e,List.length_append];omega
 ·have:=List.length_filter_le f (l.take n);rw[List.length_take] at this;omega
theorem b1a.flt(h:Snd x)(i:Nat)(hi:i<x.cells.length)(f:Pr->Bool)(g:Nat)(t:Int)(hg:((x.c i).prs.filter f).length+g=(x.c i).prs.length)(ht:t=if dL x=(i:Int) then ((((x.c i).prs.take x.sub.toNat).filter f).length:Int) else x.sub):b1a x (fltH x i f g t) where
 hl:=by simp [fltH]
 rest:=a3v.refl _
 c:=λq=>by rw[a8d x i f g t hi q];split;(· rename_i t;rw[t];exact⟨rfl,rfl,rfl,rfl,rfl⟩);(· exact⟨rfl,rfl,rfl,rfl,rfl⟩)
 wk:=λq=>by rw[a8d x i f g t hi q];split;(· rename_i t;rw[t];exact .inl rfl);(· exact .inl rfl)
 la:=λq=>by rw[a8d x i f g t hi q];split;(· rename_i t;rw[t];exact .inl rfl);(· exact .inl rfl)
 sp:=λq=>by rw[a8d x i f g t hi q];split;(· rename_i t;rw[t];exact id);(· exact id)
 p:=λq hq k hk=>by
  rw[a8d x i f g t hi q] at hk ⊢;by_cases e:q=i
  ·rw[if_pos e] at hk ⊢;rw[e];obtain⟨j,h1,h2,h3⟩:=b0i f Pr0 (x.c i).prs k hk;refine⟨j,h1,h2,λhs=>?_⟩;show(k:Int)<t↔_;rw[ht,if_pos hs];have:=h3 x.sub.toNat;have:=h.r1.sub;omega
  ·rw[if_neg e] at hk ⊢;refine⟨k,hk,rfl,λhs=>?_⟩;show(k:Int)<t↔_;rw[ht,if_neg (λu=>by omega)]
 le:=λq hq=>by
  rw[a8d x i f g t hi q];split
  ·rename_i e;rw[e];exact List.length_filter_le _ _
  ·exact Nat.le_refl _
 us:=by
  have u:=a1v x.cells i (b8b (x.c i) f) hi;rw[Hp.c_eq x i hi] at u;have h3:=h.r3.1;show x.used-(g:Int)=(dN (x.cells.set i (b8b (x.c i) f)):Nat);by_cases s1:(x.c i).st=1
  ·have e1:cH (x.c i)=1+(x.c i).prs.length:=by unfold cH;rw[if_pos s1]
   have e2:cH (b8b (x.c i) f)=1+((x.c i).prs.filter f).length:=by
    unfold cH;show(if (x.c i).st=1 then 1+((x.c i).prs.filter f).length else 0)=_;rw[if_pos s1]
   rw[e1,e2] at u;omega
  ·have e1:cH (x.c i)=0:=by unfold cH;rw[if_neg s1]
   have e2:cH (b8b (x.c i) f)=0:=by
    unfold cH;show(if (x.c i).st=1 then 1+((x.c i).prs.filter f).length else 0)=_;rw[if_neg s1]
   have e3:(x.c i).prs.length=0:=by
    rcases h.r2.1 i hi with z | z | z
    ·exact z.2.1.2.2.2.2.2
    ·exact z.2.1.2.2.2.2.2
    ·exact absurd z.1 s1
   rw[e1,e2] at u;omega
 ul:=by show x.used-(g:Int)<=x.used;omega
 s0:=by
  have:=h.r1.sub;have:=(c1k f (x.c i).prs x.sub.toNat).2;show 0<=t/\t<=x.sub;rw[ht]
  split <;> omega
 s1:=λq hq hs=>by
  have k:=h.scan q hs;show t<=_;rw[a8d x i f g t hi q,ht];by_cases e:q=i
  ·rw[if_pos e,if_pos (by rw[<-e];exact hs)];have:=(c1k f (x.c i).prs x.sub.toNat).1;show _<=((((x.c i).prs.filter f).length:Nat):Int);omega
  ·rw[if_neg e,if_neg (λu=>by omega)];exact k
theorem c4m{z:Hp}(r:a3v z x)(hl:z.cells.length=x.cells.length):dL z=dL x:=by
 obtain⟨_,_,_,r4,r5,r6,_⟩:=r;unfold dL;rw[r4,r5,r6,hl]
theorem Snd.stTo{x:Hp}(s:Snd x)(H:Nat->Bool):∀k,k<=x.cells.length->Snd (stTo x H k)
 | 0,_=>s
 | k+1,hk=>by
  have sz:=Snd.stTo s H k (by omega);have zl:=a6h x H k;have zc:(Go.Proofs.YtddkhnclmeikfaaGreat.stTo x H k).c k=x.c k:=by rw[b9z x H k (by omega) k,if_neg (by omega)]
  have sc:=c4m (b0d x H k) zl;show Snd (a2r x H k (Go.Proofs.YtddkhnclmeikfaaGreat.stTo x H k));obtain⟨z,hz⟩:∃z,z=Go.Proofs.YtddkhnclmeikfaaGreat.stTo x H k:=⟨_,rfl⟩;rw[<-hz] at sz zl zc sc ⊢;have hi:k<z.cells.length:=by omega
  unfold a2r
  split
  ·have e:({ z with cells:=z.cells.set k (b3k x H (x.c k)),used:=z.used-tY x H (x.c k) (x.c k).prs,sub:=a2e x H k z.sub }:Hp)=fltH z k (λp=>!goB x H (x.c k) p) (tY x H (x.c k) (x.c k).prs) (a2e x H k z.sub):=by
    unfold fltH b8b b3k yD;rw[zc]
   rw[e];refine sz.thin (b1a.flt sz k hi _ _ _ ?_ ?_)
   ·rw[zc];exact a7b x H (x.c k) (x.c k).prs
   ·unfold a2e;rw[sc,zc]
    split
    ·rename_i es;have a:=sz.scan k (by rw[sc];exact es);have b:=sz.r1.sub;rw[zc] at a;have c:=a7b x H (x.c k) ((x.c k).prs.take z.sub.toNat);rw[List.length_take] at c;unfold yD at c;omega
    ·rfl
  ·split
   ·rename_i _ e1;have s1:=a2z sz.r2 k hi (.inl (by rw[zc];exact e1));have e:({ z with cells:=z.cells.set k (b5k (x.c k)) }:Hp)=dV z k (b5k (z.c k)):=by rw[zc];rfl
    rw[e];exact sz.thin (b1a.self sz k _ hi s1 ⟨rfl,rfl,rfl,rfl,rfl⟩ rfl (.inl rfl) (.inr ⟨by show(0:Int)<=2;omega,by show(2:Int)<=3;omega⟩) (λ_=>.inl (by rw[zc];exact e1)))
   ·exact sz
theorem Snd.settle(s:Snd x)(H:Nat->Bool):Snd (a4e x H):=by
 rw[<-c6o];exact s.stTo H _ (Nat.le_refl _)
theorem DoR.sndB(s:Snd x)(ha:a<16)(hb:k≠1->k≠23->b<16)(h1:k=1->b<=255/\c<=200)(h23:k=23->b<=64/\c<=4000)(h11:k=11->c<=3)(h12:k=12->c<=1)(hk:k≠9)(h:DoR x a b c n y cd nm k):Snd y:=by
 by_cases e1:k=1
 ·subst e1;exact b5n.snd s (h1 rfl).1 (h1 rfl).2 h
 ·by_cases e2:k=18
  ·subst e2;obtain⟨_,H,_,e,_⟩:=h;rw[e];exact s.settle H
  ·exact h.sndA s ha hb h23 h11 h12 ⟨e1,hk,e2⟩
theorem DoR.snd(s:Snd x)(ha:a<16)(hb:k≠1->k≠23->b<16)(h1:k=1->b<=255/\c<=200)(h23:k=23->b<=64/\c<=4000)(h11:k=11->c<=3)(h12:k=12->c<=1)(h:DoR x a b c n y cd nm k):Snd y:=by
 by_cases e9:k=9
 ·subst e9;rcases h with h | h
  ·rw[h.2.1];exact s
  ·exact b2p.snd s ha h.1 rfl h.2
 ·exact h.sndB s ha hb h1 h23 h11 h12 e9
theorem DoIs.snd{a b c:Int}(s:Snd x)(h:DoIs x op a b c n y cd nm):Snd y:=by
 rcases h with⟨_,h2,_⟩ | ⟨ok,h2⟩
 ·rw[h2];exact s
 ·obtain⟨h1,ha,hb,hc⟩:=cL ok;have hA:zL op<=15:=by unfold zL;split <;> omega
  have hB:op≠1->op≠23->zW op<=15:=λe1 e2=>by unfold zW;rw[if_neg e1,if_neg e2];split <;> omega
  refine DoR.snd s (by omega) (λe1 e2=>by have:=hB (by omega) (by omega);omega) (λe=>?_) (λe=>?_) (λe=>?_) (λe=>?_) h2
  ·have e:op=1:=by omega
   subst e;simp [zW,zK] at hb hc;omega
  ·have e:op=23:=by omega
   subst e;simp [zW,zQ,zK] at hb hc;omega
  ·have e:op=11:=by omega
   subst e;simp [zK] at hc;omega
  ·have e:op=12:=by omega
   subst e;simp [zK] at hc;omega
theorem l5do_gg(S:Nat->Prop)(B:Nat)(v w:World)(g:Nat)(x:Hp)(A:Ak)(h:GG S B w g x)(s:Snd x)(hv:v.heap.size<=B)(e:Ext v w):
  Calls Tryz.prog 234 #[.pointer (some ⟨g,0,none⟩),A.v] w λe w'=>∃(y:Hp) (u:Value),Hid (e=.returned u)/\Hid (Snd y)/\Hid (GG S B w' g y)/\Hid (∀q,S q->w'.heap[q]?=w.heap[q]?)/\Hid (Ext v w'):=by
 obtain⟨p,h1,h2⟩:=h.call;exact(c7x B g x A.op A.a A.b A.c A.n w h1 s v hv e).mono λ_ _ ⟨y,cd,nm,he,hd,hg,hx⟩=>⟨y,_,he,DoIs.snd s hd,(h2 _ _ hg).1,(h2 _ _ hg).2,hx⟩
theorem infoA:(Tryz.prog.info? 39).map (λi=>(i.zero,i.size,i.bytes))=some (some (.agg #[iv 0,iv 0,iv 0,iv 0,iv 0]),5,40):=by kernel_rfl
theorem c4n{ops:Array Oper}{o:Oper}{a:Act}{K:Act->World->Prop}{Q:Exit->Act->World->Prop}{E:Prop}(W:World)(hgd:o.guard=none)(s y:Operand)
  (ho:o.op=.call { callee:=.builtin .append,args:=#[s,y],argTypes:=#[23,23] })
      {L:List Ak} {va:Value} {lf:Nat} (h:Bp B v w b c g m x L va lf) (e:Ext w W) (A:Ak) (ad:Addr) (hs:a.eval s=va) (hy:a.eval y=.slice (some ad) 1 1) (hn:∀j u,(fA A)[j]?=some u->W.cell? (ad.add j)=some u)
  (hK:∀q cap w',AppA v.heap.size w va L A q cap w'->K (a.put o.dst (.slice (some ⟨q,0,none⟩) (L.length+1) cap)) w') :
  if Region.wanted o (yielded ops a.tmps)=true then Oper.wp Tryz.prog o a W K Q else E:=by
 obtain⟨i0,hi0,hz0,hz1,hz2⟩:=info_parts infoA;have hl:=h.hl;have he:=e.size;have hv:=h.cu.1.size;refine step_append_lies (w:=W) hgd s y 23 ho v.heap.size 39 i0 (.agg #[iv 0,iv 0,iv 0,iv 0,iv 0]) 5 40 Tryz.underlying23 hi0 hz0 hz1 hz2 rfl (by decide) va L.length (L.flatMap fA) hs (uQ h.ow (λq hq=>e.block q (h.ow.lt q hq).2)) ad 1 1 (fA A) hy rfl hn (λu hu=>?_) (by decide) (by unfold maxLen;omega) (by omega) (by omega) _ rfl (λq cap w' how hgr hat hlt=>hK q cap w' ⟨?_,?_,?_⟩)
 ·simp [fA] at hu;rcases hu with e | e | e | e | e <;> subst e <;> rfl
 ·rw[List.flatMap_append];simpa using how
 ·exact(uX.of_ext e).trans ⟨hgr.os,hgr.tape,hgr.output,hgr.size,λq hq hne=>hgr.block q hq (λe=>hne e.symm)⟩
 ·rcases hat with f | f
  ·exact .inl f
  ·exact .inr (by omega)
theorem b8c(B:Nat)(v w:World)(b c g m:Nat)(A:Ak)(hA:AkFit A)(h:Bd B v w b c g m):
  Calls Tryz.prog 195 #[.pointer (some ⟨b,0,none⟩),A.v] w λe w'=>e=.returned (.tuple #[])/\Hid (Bd B v w' b c g m):=by
 obtain⟨x,L,va,lf,h⟩:=h;have H:=uU h;have b3:=h.b3;have hb:b<w.heap.size:=h.nf.1;have f3:=h.nf.2 3;cases lf with
 | zero=>
  have HE:=uU (λW (e:Ext w W)=>(⟨x,L,va,0,H.ext e⟩:Bd B v W b c g m));clear h;go_enter Tryz.func195,Tryz.ntmps195;go_wp2_with fail;refine bodyPost_ret (results_none rfl _ _ _) rfl ?_;exact⟨rfl,uH HE _ ((Ext.refl _).alloc _)⟩
 | succ lf=>
  obtain⟨W,hW⟩:∃W,W=(w.setCell ⟨b,3,none⟩ (iv lf)).alloc (.cells #[iv A.op,iv A.a,iv A.b,iv A.c,iv A.n] 39):=⟨_,rfl⟩;have HW:=uU hW;have HP:=uU ((h.left (k:=lf) (by omega)).ext ((Ext.refl _).alloc (.cells #[iv A.op,iv A.a,iv A.b,iv A.c,iv A.n] 39)));rw[<-hW] at HP;have HL:=uU (show L.length+lf+1<=400 by have:=h.hl;omega);have ks:(w.setCell ⟨b,3,none⟩ (iv lf)).heap.size=w.heap.size:=by simp [World.setCell]
  obtain⟨k,hk⟩:∃k,k=w.heap.size:=⟨_,rfl⟩;have KV:=uU (show va.ownBlock≠some k from λe=>by have:=(h.ow.lt k e).2;omega);have kb:¬k=b:=by omega
  have AC:=uU (show W.cell? ⟨k,0,none⟩=some (iv A.op)/\W.cell? ⟨k,1,none⟩=some (iv A.a)/\W.cell? ⟨k,2,none⟩=some (iv A.b)/\W.cell? ⟨k,3,none⟩=some (iv A.c)/\W.cell? ⟨k,4,none⟩=some (iv A.n) by
   rw[hW,hk,<-ks];simp [go_sem])
  clear h;have e1:((lf+1:Nat):Int)-1=lf:=by omega
  have lb:lf<=400:=by have:=uH HL;omega
  go_enter Tryz.func195,Tryz.ntmps195;go_wp2_with fail;rw[<-hW,<-hk];have c2:=HP.b2;have g2:=HP.nf.2 2;have hbW:b<W.heap.size:=uL c2;obtain⟨a0,a1,a2,a3,a4⟩:=uH AC;have hkW:k<W.heap.size:=uL a0;clear b3 f3 hb hW hk e1 ks;go_region_law (refine c4n _ rfl _ _ rfl HP (by first | exact(Ext.refl _).alloc _ | exact((Ext.refl _).alloc _).drew | exact(Ext.refl _).drew.alloc _) A _ (by first | rfl | simp [Act.eval,Act.put]) (by first | rfl | simp [Act.eval,Act.put];rfl) (World.news_of_block (cs:=#[iv A.op,iv A.a,iv A.b,iv A.c,iv A.n]) (by first | exact heap_alloc_new _ _ | simp)) ?_;intro q cap w3 hap;have c2':=hap.on.keep HP.n1 c2;have g2':=(a8t HP.nf (hap.on.block b HP.nf.1 HP.n1)).2 2;have hb3:b<w3.heap.size:=uL c2';have AP:=uU hap;clear hap)
  all_goals
   obtain⟨W4,hW4⟩:∃W4,W4=w3.setCell ⟨b,2,none⟩ (.slice (some ⟨q,0,none⟩) (L.length+1) cap):=⟨_,rfl⟩;have PB:=uU (HP.push HL hA AP);have K4:=uU (λ(j:Nat) (u:Value) (e:W.cell? ⟨k,j,none⟩=some u)=>show W4.cell? ⟨k,j,none⟩=some u by rw[hW4,uC _ (.inl (λe=>kb e.symm))];exact AP.on.keep KV e);rw[<-hW4] at PB ⊢;have b0:=uH K4 _ _ a0;have b1:=uH K4 _ _ a1;have b2:=uH K4 _ _ a2;have b3:=uH K4 _ _ a3;have b4:=uH K4 _ _ a4;have c1:=PB.b1;have hk4:k<W4.heap.size:=uL b0;have hb4:b<W4.heap.size:=uL c1;have QD:=uU (λW (e:Ext W4 W)=>l5do_gg _ B v W g x A (PB.ext e).gg (PB.ext e).s (PB.ext e).vB (PB.ext e).cu.1);have FI:=uU (λ(W w5:World) (e:Ext W4 W) (y:Hp) (s5:Snd y) (g5:GG (λr=>r=b\/r=c\/some q=some r) B w5 g y) (k5:∀r,r=b\/r=c\/some q=some r->w5.heap[r]?=W.heap[r]?) (x5:Ext v w5)=>(⟨y,_,_,_,(PB.ext e).blk x5 s5 g5 k5⟩:Bd B v w5 b c g m));clear a0 a1 a2 a3 a4 c2 g2 hbW hkW c2' g2' hb3 hW4 K4 AP AC KV;go_wp2_with fail;go_region_with (go_at_call 234;refine(QD _ (by first | exact Ext.refl _ | exact(Ext.refl _).drew)).mono ?_;rintro e w5 ⟨y,u,he,s5,g5,k5,x5⟩;have e2:=uH he;subst e2;have BD:=uU (FI _ w5 (by first | exact Ext.refl _ | exact(Ext.refl _).drew) y s5 g5 k5 x5);clear he s5 g5 k5 x5)
   all_goals
    go_wp2_with fail
    go_end0
    first | exact⟨rfl,BD⟩ | exact⟨rfl,BD.ext (Ext.refl _).drew⟩
theorem a1c(B:Nat)(v w:World)(b c g m:Nat)(op x y z:Int)(ho:0<=op/\op<=100)(hx:-1000000000<=x/\x<=1000000000)(hy:-1000000000<=y/\y<=1000000000)(hz:-1000000000<=z/\z<=1000000000)(h:Bd B v w b c g m):
  Calls Tryz.prog 194 #[.pointer (some ⟨b,0,none⟩),iv op,iv x,iv y,iv z] w λe w'=>e=.returned (.tuple #[])/\Hid (Bd B v w' b c g m):=by
 have Q:=uU (b8c B v w b c g m ⟨op,x,y,z,0⟩ (by refine⟨?_,?_,?_,?_,?_⟩ <;> simp only <;> omega) h);go_enter Tryz.func194,Tryz.ntmps194;go_wp2_with fail;refine Q.mono ?_;rintro e w' ⟨rfl,h'⟩;go_wp2_with fail
 go_end0
 exact⟨rfl,h'⟩
theorem Bd.more(h:Bd B v w b c g m)(hk:m<=k):Bd B v w b c g k:=h.read (uX.refl _ _) (h.cu.more hk)
theorem c7z(B:Nat)(v w:World)(b c g m:Nat)(f:Nat)(hf:f<16)(h:Bd B v w b c g m):
  Calls Tryz.prog 198 #[.pointer (some ⟨b,0,none⟩),iv f] w λe w'=>a9r B v b c g m 201 e w':=by
 have HE:=uU (λW (e:Ext w W)=>h.ext e);have c1:=h.c1;obtain⟨x,L,va,lf,h⟩:=h;obtain⟨p,hg,_⟩:=h.gg.call;obtain⟨br,kr,hr⟩:=hg.regs h.s.r1.regs;have hb:b<w.heap.size:=h.nf.1;have c3:=hr.c3;obtain⟨r0,r1,r2⟩:=hr.r f hf;have hgw:g<w.heap.size:=uL c3;have hbr:br<w.heap.size:=uL r0;have hf0:(0:Int)<=(f:Int):=by omega
 have hf1:(f:Int)<16:=by omega
 by_cases k2:(x.r f).k=2
 ·obtain⟨_,ea,hi,_,_⟩:=h.s.at f hf k2;obtain⟨bc,kc,ap,kp,hc⟩:=hg.cel (x.at f) hi;have c4:=hc.c4;have p7:=hc.p7;have P200:=uU (h.s.ok.p200 (x.at f) hi);have hbc:bc<w.heap.size:=uL p7;obtain⟨n,hn⟩:∃n,n=(x.c (x.at f)).prs.length:=⟨_,rfl⟩;rw[<-hn] at p7 P200;rw[k2] at r0;rw[ea] at r2;obtain⟨i,hI⟩:∃i,i=x.at f:=⟨_,rfl⟩;rw[<-hI] at r2 hi p7;have hi0:(0:Int)<=(i:Int):=by omega
  have hi1:(i:Int)<(x.cells.length:Int):=by omega
  have n200:n<=200:=uH P200;clear hr hc hg h k2 ea hn hI P200;go_enter Tryz.func198,Tryz.ntmps198;go_wp2_with fail
  go_region
  go_wp2_with fail;go_ret;exact⟨_,rfl,by omega,by omega,uH HE _ ((Ext.refl _).alloc _).drew⟩
 ·have k3:((x.r f).k != 2)=true:=by simpa using k2
  clear hr hg h k2;go_enter Tryz.func198,Tryz.ntmps198;go_wp2_with fail;go_ret;exact⟨_,rfl,by omega,by omega,uH HE _ ((Ext.refl _).alloc _)⟩
theorem bpairof(B:Nat)(v w:World)(b c g m:Nat)(f:Nat)(hf:f<16)(h:Bd B v w b c g m)(hm:m<=99999999):
  Calls Tryz.prog 197 #[.pointer (some ⟨b,0,none⟩),iv f] w λe w'=>a9r B v b c g (m+4) 201 e w':=by
 have Q:=uU (c7z B v w b c g m f hf h);clear h;go_enter Tryz.func197,Tryz.ntmps197;go_wp2_with fail;refine Q.mono ?_;rintro e w1 ⟨n,he,n0,n1,BD⟩;have e2:=uH he;subst e2;have b0:=BD.c0;have hb:b<w1.heap.size:=uL b0;cases t:(n == 0)
 ·have hn1:1<=n:=by simp at t;omega
  go_wp2_with (go_at_call 54;refine(zE B v _ b c g _ _ BD (by omega) (by omega) (by omega)).mono ?_;rintro e w1 ⟨r,he,r0,r1,bd⟩;have e2:=uH he;subst e2;clear b0 BD;have BD:=bd;have b0:=BD.c0;clear bd he)
  all_goals
   go_ret;exact⟨_,rfl,by omega,by omega,BD.more (by omega)⟩
 ·go_wp2_with fail;go_ret;exact⟨_,rfl,by omega,by omega,BD.more (by omega)⟩
theorem bsize(B:Nat)(v w:World)(b c g m:Nat)(h:Bd B v w b c g m)(hm:m<=99999999):
  Calls Tryz.prog 193 #[.pointer (some ⟨b,0,none⟩)] w λe w'=>a9r B v b c g (m+4) 201 e w':=by
 have BD:=uU h;have b0:=h.c0;clear h;go_enter Tryz.func193,Tryz.ntmps193;go_wp2_with (go_at_call 54;refine(zE B v _ b c g _ _ BD (by omega) (by omega) (by omega)).mono ?_;rintro e w1 ⟨r,he,r0,r1,bd⟩;have e2:=uH he;subst e2;clear b0 BD;have BD:=bd;have b0:=BD.c0;clear bd he)
 all_goals
  go_ret;exact⟨_,rfl,by omega,by omega,BD.more (by omega)⟩
theorem a7p(B:Nat)(v w:World)(b c g m:Nat)(h:Bd B v w b c g m)(hm:m<=99999999):
  Calls Tryz.prog 156 #[.pointer (some ⟨b,0,none⟩)] w λe w'=>e=.returned (.tuple #[])/\Hid (Bd B v w' b c g (m+6)):=by
 have BD:=uU h;have b0:=h.c0;clear h;go_enter Tryz.func156,Tryz.ntmps156;go_wp2_with (first | (go_at_call 54;refine(zE B v _ b c g _ _ BD (by omega) (by omega) (by omega)).mono ?_;rintro e w1 ⟨r,he,r0,r1,bd⟩;have e2:=uH he;subst e2;clear b0 BD;have BD:=bd;have b0:=BD.c0;clear bd he) | (go_at_call 194;refine(a1c B v _ b c g _ _ _ _ _ (by omega) (by omega) (by omega) (by omega) BD).mono ?_;rintro e w1 ⟨rfl,bd⟩;clear b0 BD;have BD:=bd;have b0:=BD.c0;clear bd))
 all_goals
  go_end0
  exact⟨rfl,BD.more (by omega)⟩
theorem bpairsI(B:Nat)(v w:World)(b c g m:Nat)(f:Int)(h0:0<=f)(h1:f<16)(h:Bd B v w b c g m):
  Calls Tryz.prog 198 #[.pointer (some ⟨b,0,none⟩),iv f] w λe w'=>a9r B v b c g m 201 e w':=by
 obtain⟨k,rfl⟩:∃k:Nat,f=k:=⟨f.toNat,by omega⟩;exact c7z B v w b c g m k (by omega) h
theorem b8d(B:Nat)(v w:World)(b c g m:Nat)(f:Int)(h0:0<=f)(h1:f<16)(h:Bd B v w b c g m)(hm:m<=99999999):
  Calls Tryz.prog 197 #[.pointer (some ⟨b,0,none⟩),iv f] w λe w'=>a9r B v b c g (m+4) 201 e w':=by
 obtain⟨k,rfl⟩:∃k:Nat,f=k:=⟨f.toNat,by omega⟩;exact bpairof B v w b c g m k (by omega) h hm
theorem emitI(B:Nat)(v w:World)(b c g m:Nat)(op x y z n:Int)(h1:0<=op/\op<=100)(h2:0<=x/\x<=100)(h3:0<=y/\y<=100)(h4:0<=z/\z<=100)(h5:-9223372036854775808<=n/\n<=9223372036854775807)(h:Bd B v w b c g m):
  Calls Tryz.prog 195 #[.pointer (some ⟨b,0,none⟩),.agg #[iv op,iv x,iv y,iv z,iv n]] w λe w'=>e=.returned (.tuple #[])/\Hid (Bd B v w' b c g m):=
 b8c B v w b c g m ⟨op,x,y,z,n⟩ (by refine⟨?_,?_,?_,?_,?_⟩ <;> simp only <;> omega) h
theorem bact(B:Nat)(v w:World)(b c g m:Nat)(h:Bd B v w b c g m)(hm:m<=9999999):
  Calls Tryz.prog 117 #[.pointer (some ⟨b,0,none⟩)] w λe w'=>e=.returned (.tuple #[])/\Hid (Bd B v w' b c g (m+14)):=by
 have BD:=uU h;have b0:=h.c0;clear h;go_enter Tryz.func117,Tryz.ntmps117;go_wp2_with (first | (go_at_call 54;refine(zE B v _ b c g _ _ BD (by omega) (by omega) (by omega)).mono ?_;rintro e w1 ⟨r,he,r0,r1,bd⟩;have e2:=uH he;subst e2;clear he;clear b0 BD;have BD:=bd;have b0:=BD.c0;clear bd) | (go_at_call 194;refine(a1c B v _ b c g _ _ _ _ _ (by omega) (by omega) (by omega) (by omega) BD).mono ?_;rintro e w1 ⟨rfl,bd⟩;clear b0 BD;have BD:=bd;have b0:=BD.c0;clear bd) | (go_at_call 193;refine(bsize B v _ b c g _ BD (by omega)).mono ?_;rintro e w1 ⟨r,he,r0,r1,bd⟩;have e2:=uH he;subst e2;clear he;clear b0 BD;have BD:=bd;have b0:=BD.c0;clear bd) | (go_at_call 197;refine(b8d B v _ b c g _ _ (by omega) (by omega) BD (by omega)).mono ?_;rintro e w1 ⟨r,he,r0,r1,bd⟩;have e2:=uH he;subst e2;clear he;clear b0 BD;have BD:=bd;have b0:=BD.c0;clear bd) | (go_at_call 198;refine(bpairsI B v _ b c g _ _ (by omega) (by omega) BD).mono ?_;rintro e w1 ⟨r,he,r0,r1,bd⟩;have e2:=uH he;subst e2;clear he;clear b0 BD;have BD:=bd;have b0:=BD.c0;clear bd) | (go_at_call 196;refine(bwhole B v _ b c g _ BD (by omega)).mono ?_;rintro e w1 ⟨r,he,r0,bd⟩;have e2:=uH he;subst e2;clear he;clear b0 BD;have BD:=bd;have b0:=BD.c0;clear bd) | (go_at_call 195;refine(emitI B v _ b c g _ _ _ _ _ _ (by omega) (by omega) (by omega) (by omega) (by omega) BD).mono ?_;rintro e w1 ⟨rfl,bd⟩;clear b0 BD;have BD:=bd;have b0:=BD.c0;clear bd))
 all_goals
  go_end0
  exact⟨rfl,BD.more (by omega)⟩
theorem bchain(B:Nat)(v w:World)(b c g m:Nat)(n:Int)(h:Bd B v w b c g m)(hm:m<=9999999)(n0:0<=n)(n1:n<=5):
  Calls Tryz.prog 152 #[.pointer (some ⟨b,0,none⟩),iv n] w λe w'=>e=.returned (.tuple #[])/\Hid (Bd B v w' b c g (m+100)):=by
 have BD:=uU h;have b0:=h.c0;clear h;go_enter Tryz.func152,Tryz.ntmps152;go_wp2_with (first | (go_at_call 54;refine(zE B v _ b c g _ _ BD (by omega) (by omega) (by omega)).mono ?_;rintro e w1 ⟨r,he,r0,r1,bd⟩;have e2:=uH he;subst e2;clear he;clear b0 BD;have BD:=bd;have b0:=BD.c0;clear bd) | (go_at_call 194;refine(a1c B v _ b c g _ _ _ _ _ (by omega) (by omega) (by omega) (by omega) BD).mono ?_;rintro e w1 ⟨rfl,bd⟩;clear b0 BD;have BD:=bd;have b0:=BD.c0;clear bd));go_loopw [4] (λi wr=>∃k:Nat,(k:Int)<=n/\i=.int .i64 k/\Hid (Bd B v wr b c g (m+4+k*12))) (λi _=>(n-intOf i).toNat)
 case atStart=>exact⟨0,by omega,rfl,BD.more (by omega)⟩
 case round=>
  clear b0 BD;obtain⟨k,hk,rfl,BD⟩:=hrel;have b0:=BD.c0;by_cases hlt:(k:Int)<n
  ·go_wp2_with (first | (go_at_call 54;refine(zE B v _ b c g _ _ BD (by omega) (by omega) (by omega)).mono ?_;rintro e w1 ⟨r,he,r0,r1,bd⟩;have e2:=uH he;subst e2;clear he;clear b0 BD;have BD:=bd;have b0:=BD.c0;clear bd) | (go_at_call 194;refine(a1c B v _ b c g _ _ _ _ _ (by omega) (by omega) (by omega) (by omega) BD).mono ?_;rintro e w1 ⟨rfl,bd⟩;clear b0 BD;have BD:=bd;have b0:=BD.c0;clear bd) | (go_at_call 156;refine(a7p B v _ b c g _ BD (by omega)).mono ?_;rintro e w1 ⟨rfl,bd⟩;clear b0 BD;have BD:=bd;have b0:=BD.c0;clear bd))
   all_goals
    go_roundw
    ·exact⟨k+1,by omega,by go_num,BD.more (by omega)⟩
    ·simp [intOf];omega
  ·go_wp2_with (first | (go_at_call 54;refine(zE B v _ b c g _ _ BD (by omega) (by omega) (by omega)).mono ?_;rintro e w1 ⟨r,he,r0,r1,bd⟩;have e2:=uH he;subst e2;clear he;clear b0 BD;have BD:=bd;have b0:=BD.c0;clear bd) | (go_at_call 194;refine(a1c B v _ b c g _ _ _ _ _ (by omega) (by omega) (by omega) (by omega) BD).mono ?_;rintro e w1 ⟨rfl,bd⟩;clear b0 BD;have BD:=bd;have b0:=BD.c0;clear bd))
   all_goals
    go_end0
    exact⟨rfl,BD.more (by omega)⟩
theorem bweakly(B:Nat)(v w:World)(b c g m:Nat)(h:Bd B v w b c g m)(hm:m<=9999999):
  Calls Tryz.prog 153 #[.pointer (some ⟨b,0,none⟩)] w λe w'=>e=.returned (.tuple #[])/\Hid (Bd B v w' b c g (m+100)):=by
 have BD:=uU h;have b0:=h.c0;clear h;go_enter Tryz.func153,Tryz.ntmps153;go_wp2_with fail;refine(zE B v _ b c g _ _ BD (by omega) (by omega) (by omega)).mono ?_;rintro e w1 ⟨n,he,n0,n1,bd⟩;have e2:=uH he;subst e2;clear he;clear b0 BD;have BD:=bd;have b0:=BD.c0;clear bd;go_wp2_with (first | (go_at_call 54;refine(zE B v _ b c g _ _ BD (by omega) (by omega) (by omega)).mono ?_;rintro e w1 ⟨r,he,r0,r1,bd⟩;have e2:=uH he;subst e2;clear he;clear b0 BD;have BD:=bd;have b0:=BD.c0;clear bd) | (go_at_call 194;refine(a1c B v _ b c g _ _ _ _ _ (by omega) (by omega) (by omega) (by omega) BD).mono ?_;rintro e w1 ⟨rfl,bd⟩;clear b0 BD;have BD:=bd;have b0:=BD.c0;clear bd));go_loopw [3,4,5] (λi _x _y wr=>∃k:Nat,(k:Int)<=1+n/\i=.int .i64 k/\Hid (Bd B v wr b c g (m+8+k*20))) (λi _x _y _=>(1+n-intOf i).toNat)
 case atStart=>exact⟨0,by omega,rfl,BD.more (by omega)⟩
 case round=>
  clear b0 BD;obtain⟨k,hk,rfl,BD⟩:=hrel;have b0:=BD.c0;by_cases hlt:(k:Int)<1+n
  ·go_wp2_with (first | (go_at_call 54;refine(zE B v _ b c g _ _ BD (by omega) (by omega) (by omega)).mono ?_;rintro e w1 ⟨r,he,r0,r1,bd⟩;have e2:=uH he;subst e2;clear he;clear b0 BD;have BD:=bd;have b0:=BD.c0;clear bd) | (go_at_call 194;refine(a1c B v _ b c g _ _ _ _ _ (by omega) (by omega) (by omega) (by omega) BD).mono ?_;rintro e w1 ⟨rfl,bd⟩;clear b0 BD;have BD:=bd;have b0:=BD.c0;clear bd) | (go_at_call 156;refine(a7p B v _ b c g _ BD (by omega)).mono ?_;rintro e w1 ⟨rfl,bd⟩;clear b0 BD;have BD:=bd;have b0:=BD.c0;clear bd))
   all_goals
    go_roundw
    ·exact⟨k+1,by omega,by go_num,BD.more (by omega)⟩
    ·simp [intOf];omega
  ·go_wp2_with (first | (go_at_call 54;refine(zE B v _ b c g _ _ BD (by omega) (by omega) (by omega)).mono ?_;rintro e w1 ⟨r,he,r0,r1,bd⟩;have e2:=uH he;subst e2;clear he;clear b0 BD;have BD:=bd;have b0:=BD.c0;clear bd) | (go_at_call 194;refine(a1c B v _ b c g _ _ _ _ _ (by omega) (by omega) (by omega) (by omega) BD).mono ?_;rintro e w1 ⟨rfl,bd⟩;clear b0 BD;have BD:=bd;have b0:=BD.c0;clear bd))
   all_goals
    go_end0
    exact⟨rfl,BD.more (by omega)⟩
theorem bring(B:Nat)(v w:World)(b c g m:Nat)(h:Bd B v w b c g m)(hm:m<=9999999):
  Calls Tryz.prog 155 #[.pointer (some ⟨b,0,none⟩)] w λe w'=>e=.returned (.tuple #[])/\Hid (Bd B v w' b c g (m+60)):=by
 have BD:=uU h;have b0:=h.c0;clear h;go_enter Tryz.func155,Tryz.ntmps155;go_wp2_with (first | (go_at_call 54;refine(zE B v _ b c g _ _ BD (by omega) (by omega) (by omega)).mono ?_;rintro e w1 ⟨r,he,r0,r1,bd⟩;have e2:=uH he;subst e2;clear he;clear b0 BD;have BD:=bd;have b0:=BD.c0;clear bd) | (go_at_call 194;refine(a1c B v _ b c g _ _ _ _ _ (by omega) (by omega) (by omega) (by omega) BD).mono ?_;rintro e w1 ⟨rfl,bd⟩;clear b0 BD;have BD:=bd;have b0:=BD.c0;clear bd) | (go_at_call 156;refine(a7p B v _ b c g _ BD (by omega)).mono ?_;rintro e w1 ⟨rfl,bd⟩;clear b0 BD;have BD:=bd;have b0:=BD.c0;clear bd));go_loopw [2] (λi wr=>∃k:Nat,k<=4/\i=.int .i64 k/\Hid (Bd B v wr b c g (m+8+k*4))) (λi _=>(4-intOf i).toNat)
 case atStart=>exact⟨1,by omega,rfl,BD.more (by omega)⟩
 case round=>
  clear b0 BD;obtain⟨k,hk,rfl,BD⟩:=hrel;have b0:=BD.c0;by_cases hlt:(k:Int)<4
  ·go_wp2_with (first | (go_at_call 54;refine(zE B v _ b c g _ _ BD (by omega) (by omega) (by omega)).mono ?_;rintro e w1 ⟨r,he,r0,r1,bd⟩;have e2:=uH he;subst e2;clear he;clear b0 BD;have BD:=bd;have b0:=BD.c0;clear bd) | (go_at_call 194;refine(a1c B v _ b c g _ _ _ _ _ (by omega) (by omega) (by omega) (by omega) BD).mono ?_;rintro e w1 ⟨rfl,bd⟩;clear b0 BD;have BD:=bd;have b0:=BD.c0;clear bd) | (go_at_call 156;refine(a7p B v _ b c g _ BD (by omega)).mono ?_;rintro e w1 ⟨rfl,bd⟩;clear b0 BD;have BD:=bd;have b0:=BD.c0;clear bd))
   all_goals
    go_roundw
    ·exact⟨k+1,by omega,by go_num,BD.more (by omega)⟩
    ·simp [intOf];omega
  ·go_wp2_with (first | (go_at_call 54;refine(zE B v _ b c g _ _ BD (by omega) (by omega) (by omega)).mono ?_;rintro e w1 ⟨r,he,r0,r1,bd⟩;have e2:=uH he;subst e2;clear he;clear b0 BD;have BD:=bd;have b0:=BD.c0;clear bd) | (go_at_call 194;refine(a1c B v _ b c g _ _ _ _ _ (by omega) (by omega) (by omega) (by omega) BD).mono ?_;rintro e w1 ⟨rfl,bd⟩;clear b0 BD;have BD:=bd;have b0:=BD.c0;clear bd) | (go_at_call 156;refine(a7p B v _ b c g _ BD (by omega)).mono ?_;rintro e w1 ⟨rfl,bd⟩;clear b0 BD;have BD:=bd;have b0:=BD.c0;clear bd))
   all_goals
    go_end0
    exact⟨rfl,BD.more (by omega)⟩
theorem blastly(B:Nat)(v w:World)(b c g m:Nat)(h:Bd B v w b c g m)(hm:m<=9999999):
  Calls Tryz.prog 154 #[.pointer (some ⟨b,0,none⟩)] w λe w'=>e=.returned (.tuple #[])/\Hid (Bd B v w' b c g (m+150)):=by
 have BD:=uU h;have b0:=h.c0;clear h;go_enter Tryz.func154,Tryz.ntmps154;go_wp2_with (go_at_call 54;refine(zE B v _ b c g _ _ BD (by omega) (by omega) (by omega)).mono ?_;rintro e w1 ⟨r,he,r0,r1,bd⟩;have e2:=uH he;subst e2;clear he;clear b0 BD;have BD:=bd;have b0:=BD.c0;clear bd);go_loopw [2] (λi wr=>∃k:Nat,k<=3/\i=.int .i64 k/\Hid (Bd B v wr b c g (m+2+(3-k)*12))) (λi _=>(intOf i).toNat)
 case atStart=>exact⟨(1+r).toNat,by omega,by rw[Int.toNat_of_nonneg (by omega)],BD.more (by omega)⟩
 case round=>
  clear b0 BD;obtain⟨k,hk,rfl,BD⟩:=hrel;have b0:=BD.c0;by_cases hlt:(k:Int) > 0
  ·go_wp2_with (first | (go_at_call 54;refine(zE B v _ b c g _ _ BD (by omega) (by omega) (by omega)).mono ?_;rintro e w1 ⟨r,he,r0,r1,bd⟩;have e2:=uH he;subst e2;clear he;clear b0 BD;have BD:=bd;have b0:=BD.c0;clear bd) | (go_at_call 194;refine(a1c B v _ b c g _ _ _ _ _ (by omega) (by omega) (by omega) (by omega) BD).mono ?_;rintro e w1 ⟨rfl,bd⟩;clear b0 BD;have BD:=bd;have b0:=BD.c0;clear bd) | (go_at_call 156;refine(a7p B v _ b c g _ BD (by omega)).mono ?_;rintro e w1 ⟨rfl,bd⟩;clear b0 BD;have BD:=bd;have b0:=BD.c0;clear bd))
   all_goals
    go_roundw
    ·exact⟨k-1,by omega,by rw[Int.ofNat_sub (by omega)];rfl,BD.more (by omega)⟩
    ·simp [intOf];omega
  ·have hk0:k=0:=by omega
   subst hk0;go_wp2_with (first | (go_at_call 54;refine(zE B v _ b c g _ _ BD (by omega) (by omega) (by omega)).mono ?_;rintro e w1 ⟨r,he,r0,r1,bd⟩;have e2:=uH he;subst e2;clear he;clear b0 BD;have BD:=bd;have b0:=BD.c0;clear bd) | (go_at_call 194;refine(a1c B v _ b c g _ _ _ _ _ (by omega) (by omega) (by omega) (by omega) BD).mono ?_;rintro e w1 ⟨rfl,bd⟩;clear b0 BD;have BD:=bd;have b0:=BD.c0;clear bd));go_loopw [3,4] (λi _x wr=>∃k:Nat,k<=3/\i=.int .i64 k/\Hid (Bd B v wr b c g (m+40+(3-k)*20))) (λi _ _=>(intOf i).toNat)
   case atStart=>exact⟨r.toNat,by omega,by rw[Int.toNat_of_nonneg (by omega)],BD.more (by omega)⟩
   case round=>
    clear b0 BD;obtain⟨k,hk,rfl,BD⟩:=hrel;have b0:=BD.c0;by_cases hlt:(k:Int) > 0
    ·go_wp2_with (first | (go_at_call 54;refine(zE B v _ b c g _ _ BD (by omega) (by omega) (by omega)).mono ?_;rintro e w1 ⟨r,he,r0,r1,bd⟩;have e2:=uH he;subst e2;clear he;clear b0 BD;have BD:=bd;have b0:=BD.c0;clear bd) | (go_at_call 194;refine(a1c B v _ b c g _ _ _ _ _ (by omega) (by omega) (by omega) (by omega) BD).mono ?_;rintro e w1 ⟨rfl,bd⟩;clear b0 BD;have BD:=bd;have b0:=BD.c0;clear bd) | (go_at_call 156;refine(a7p B v _ b c g _ BD (by omega)).mono ?_;rintro e w1 ⟨rfl,bd⟩;clear b0 BD;have BD:=bd;have b0:=BD.c0;clear bd) | (go_at_call 197;refine(b8d B v _ b c g _ _ (by omega) (by omega) BD (by omega)).mono ?_;rintro e w1 ⟨r,he,r0,r1,bd⟩;have e2:=uH he;subst e2;clear he;clear b0 BD;have BD:=bd;have b0:=BD.c0;clear bd))
     all_goals
      go_roundw
      ·exact⟨k-1,by omega,by rw[Int.ofNat_sub (by omega)];rfl,BD.more (by omega)⟩
      ·simp [intOf];omega
    ·go_wp2_with (first | (go_at_call 54;refine(zE B v _ b c g _ _ BD (by omega) (by omega) (by omega)).mono ?_;rintro e w1 ⟨r,he,r0,r1,bd⟩;have e2:=uH he;subst e2;clear he;clear b0 BD;have BD:=bd;have b0:=BD.c0;clear bd) | (go_at_call 194;refine(a1c B v _ b c g _ _ _ _ _ (by omega) (by omega) (by omega) (by omega) BD).mono ?_;rintro e w1 ⟨rfl,bd⟩;clear b0 BD;have BD:=bd;have b0:=BD.c0;clear bd))
     all_goals
      go_end0
      exact⟨rfl,BD.more (by omega)⟩
theorem bsome(B:Nat)(v w:World)(b c g m:Nat)(h:Bd B v w b c g m)(hm:m<=999999):
  Calls Tryz.prog 95 #[.pointer (some ⟨b,0,none⟩)] w λe w'=>e=.returned (.tuple #[])/\Hid (Bd B v w' b c g (m+300)):=by
 have BD:=uU h;have b0:=h.c0;clear h;go_enter Tryz.func95,Tryz.ntmps95;go_wp2_with (first | (go_at_call 54;refine(zE B v _ b c g _ _ BD (by omega) (by omega) (by omega)).mono ?_;rintro e w1 ⟨r,he,r0,r1,bd⟩;have e2:=uH he;subst e2;clear he;clear b0 BD;have BD:=bd;have b0:=BD.c0;clear bd) | (go_at_call 152;refine(bchain B v _ b c g _ _ BD (by omega) (by omega) (by omega)).mono ?_;rintro e w1 ⟨rfl,bd⟩;clear b0 BD;have BD:=bd;have b0:=BD.c0;clear bd) | (go_at_call 153;refine(bweakly B v _ b c g _ BD (by omega)).mono ?_;rintro e w1 ⟨rfl,bd⟩;clear b0 BD;have BD:=bd;have b0:=BD.c0;clear bd) | (go_at_call 154;refine(blastly B v _ b c g _ BD (by omega)).mono ?_;rintro e w1 ⟨rfl,bd⟩;clear b0 BD;have BD:=bd;have b0:=BD.c0;clear bd) | (go_at_call 155;refine(bring B v _ b c g _ BD (by omega)).mono ?_;rintro e w1 ⟨rfl,bd⟩;clear b0 BD;have BD:=bd;have b0:=BD.c0;clear bd) | (go_at_call 156;refine(a7p B v _ b c g _ BD (by omega)).mono ?_;rintro e w1 ⟨rfl,bd⟩;clear b0 BD;have BD:=bd;have b0:=BD.c0;clear bd))
 iterate 4
  ·go_end0
   exact⟨rfl,BD.more (by omega)⟩
 go_loopw [3] (λi wr=>∃k:Nat,k<=9/\i=.int .i64 k/\Hid (Bd B v wr b c g (m+4+(9-k)*20))) (λi _=>(intOf i).toNat)
 case atStart=>exact⟨(2+r).toNat,by omega,by rw[Int.toNat_of_nonneg (by omega)],BD.more (by omega)⟩
 case round=>
  clear b0 BD;obtain⟨k,hk,rfl,BD⟩:=hrel;have b0:=BD.c0;by_cases hlt:(k:Int) > 0
  ·go_wp2_with (first | (go_at_call 117;refine(bact B v _ b c g _ BD (by omega)).mono ?_;rintro e w1 ⟨rfl,bd⟩;clear b0 BD;have BD:=bd;have b0:=BD.c0;clear bd) | (go_at_call 156;refine(a7p B v _ b c g _ BD (by omega)).mono ?_;rintro e w1 ⟨rfl,bd⟩;clear b0 BD;have BD:=bd;have b0:=BD.c0;clear bd));go_roundw
   ·exact⟨k-1,by omega,by rw[Int.ofNat_sub (by omega)];rfl,BD.more (by omega)⟩
   ·simp [intOf];omega
  ·go_wp2_with (go_at_call 156;refine(a7p B v _ b c g _ BD (by omega)).mono ?_;rintro e w1 ⟨rfl,bd⟩;clear b0 BD;have BD:=bd;have b0:=BD.c0;clear bd)
   go_end0
   exact⟨rfl,BD.more (by omega)⟩
def zw(n:Nat):Array Value:=Array.replicate n (iv 0)
theorem mk16(w:World):(Instr.makeSlice 30 (.int .i64 16) (.int .i64 16)).run Tryz.prog w=.ok (.slice (some ⟨w.heap.size,0,none⟩) 16 16) (w.alloc (.cells (zw 48) 152)):=by kernel_rfl
theorem b8e(n:Int)(w:World):Calls Tryz.prog 151 #[.int .i64 n] w λe w'=>e=.returned (.pointer (some ⟨w.heap.size+1,0,none⟩))/\w'=(w.alloc (.cells (zw 48) 152)).alloc (.cells #[iv n,iv 0,iv 0,.slice (some ⟨w.heap.size,0,none⟩) 16 16,.slice none 0 0,iv 0,iv 0,iv 0,.slice none 0 0,iv 0,iv 0,iv 0,iv 0] 34):=by
 have hmk:=mk16;go_enter Tryz.func151,Tryz.ntmps151
 go_wp2
 go_ret;exact⟨rfl,rfl⟩
end Go.Proofs.YtddkhnclmeikfaaGreat
