import Derived.Test.YtddkhnclmeikfaaGreatEr
set_option maxRecDepth 100000
set_option maxHeartbeats 1000000
namespace Go.Proofs.YtddkhnclmeikfaaGreat
open Go.RowKit
attribute [local go_sem ↓] Go.wp_at_zero Go.wp_at_succ
variable{n:Int}{k:Nat}
theorem cL{op a b c:Int}(h:dU op a b c n=true):(1<=op/\op<=24)/\(0<=a/\a<=zL op)/\(0<=b/\b<=zW op)/\(0<=c/\c<=zK op):=by
 unfold dU at h;simp only [Bool.and_eq_true,decide_eq_true_eq] at h;exact⟨h.1.1,h.2.1,h.2.2.1,h.2.2.2⟩
abbrev b5w[Inhabited uN](B g:Nat)(x:Hp)(op a b c n:Int)(v:World)(e:Ending)(w':World):Prop:=∃(y:Hp) (cd nm:Int),Hid (e=.returned (eY cd nm))/\Hid (DoIs x op a b c n y cd nm)/\Hid (GOk B w' g y)/\Ext v w'
theorem l5do_no[p:Inhabited uN](B g:Nat)(x:Hp)(op a b c n:Int)(w:World)(h:GOk B w g x)(ok:dU op a b c n=false)(v:World)(hx:Ext v w):
  Calls Tryz.prog 234 #[.pointer (some ⟨g,0,none⟩),qZ op a b c n] w λe w'=>b5w B g x op a b c n v e w':=by
 obtain⟨p1,o1,g1⟩:=GOk.enter h (w0:=doW w op a b c n) (((Ext.refl w).alloc _).alloc _);have HG:=uU g1;have O1:=uU o1;have OK:=uU ok;have QA:=uU (λW=>hE op a b c n W);rw[ok] at QA;have V0:=uU (show v.heap.size<=w.heap.size+1 by have:=hx.size;omega);have XD:=uU (show Ext v (doW w op a b c n) from(hx.alloc _).alloc _);clear h o1 g1 ok;go_enter Tryz.func234,Tryz.ntmps234;go_wp2_with fail;refine(QA _).mono ?_;rintro e w1 ⟨rfl,x1⟩;have X1:=uU (XD.trans x1);have G1:=uU (HG.ext x1);clear x1 QA XD HG;go_wp2_with fail;refine(a0i 1 _).mono ?_;rintro e w3 ⟨rfl,x3⟩;have G3:=uU (G1.ext x3);have X3:=uU (X1.trans x3);obtain⟨u0,u1,u2,u3,u4,u5,u6,u7⟩:=G3.boxes O1;have hw3:w.heap.size+1<w3.heap.size:=uL u5;clear x3;go_wp2_with fail;refine bodyPost_ret (v:=eY 1 0) (by simp [results,Tryz.results234,go_sem,u5,u6]) rfl ?_;exact⟨x,1,0,rfl,.inl ⟨OK,rfl,rfl,rfl⟩,GOk.done O1 G3 1 0,uW X3 V0 1 0⟩
theorem dC.is[Inhabited uN]{B g:Nat}{x:Hp}{a b c:Nat}{v:World}{e:Ending}{w':World}(h:dC B g x a b c n k v e w')(ok:dU (k:Int) a b c n=true):b5w B g x (k:Int) a b c n v e w':=by
 obtain⟨y,cd,nm,h1,h2,h3,h4⟩:=h;exact⟨y,cd,nm,h1,.inr ⟨ok,by simpa using uH h2⟩,h3,h4⟩
theorem l5do_ok[p:Inhabited uN](B g:Nat)(x:Hp)(a b c:Nat)(n:Int)(w:World)(h:GOk B w g x)(s:Snd x)(v:World)(hv:v.heap.size<=B)(hx:Ext v w):
  ∀k:Nat,1<=k->k<=24->dU (k:Int) a b c n=true->Calls Tryz.prog 234 #[.pointer (some ⟨g,0,none⟩),qZ (k:Int) a b c n] w λe w'=>dC B g x a b c n k v e w'
 | 0,h1,_,_=>absurd h1 (by omega)
 | 1,_,_,ok=>l5do_1 B g x a b c n w h s ok (by have h9:=cL ok;simp [zL,qV,zW,zK] at h9;omega) (by have h9:=cL ok;simp [zL,qV,zW,zK] at h9;omega) (by have h9:=cL ok;simp [zL,qV,zW,zK] at h9;omega) v hv hx
 | 2,_,_,ok=>l5do_2 B g x a b c n w h s ok (by have h9:=cL ok;simp [zL,qV,zW,zQ,zK] at h9;omega) v hv hx
 | 3,_,_,ok=>l5do_3 B g x a b c n w h s ok (by have h9:=cL ok;simp [zL,qV,zW,zQ,zK] at h9;omega) v hv hx
 | 4,_,_,ok=>l5do_4 B g x a b c n w h s ok (by have h9:=cL ok;simp [zL,qV,zW,zQ,zK] at h9;omega) (by have h9:=cL ok;simp [zL,qV,zW,zQ,zK] at h9;omega) v hv hx
 | 5,_,_,ok=>l5do_5 B g x a b c n w h s ok (by have h9:=cL ok;simp [zL,qV,zW,zQ,zK] at h9;omega) (by have h9:=cL ok;simp [zL,qV,zW,zQ,zK] at h9;omega) v hv hx
 | 6,_,_,ok=>l5do_6 B g x a b c n w h s ok (by have h9:=cL ok;simp [zL,qV,zW,zQ,zK] at h9;omega) (by have h9:=cL ok;simp [zL,qV,zW,zQ,zK] at h9;omega) v hv hx
 | 7,_,_,ok=>l5do_7 B g x a b c n w h s ok (by have h9:=cL ok;simp [zL,qV,zW,zQ,zK] at h9;omega) (by have h9:=cL ok;simp [zL,qV,zW,zQ,zK] at h9;omega) v hv hx
 | 8,_,_,ok=>l5do_8 B g x a b c n w h s ok (by have h9:=cL ok;simp [zL,qV,zW,zQ,zK] at h9;omega) (by have h9:=cL ok;simp [zL,qV,zW,zQ,zK] at h9;omega) v hv hx
 | 9,_,_,ok=>l5do_9 B g x a b c n w h s ok (by have h9:=cL ok;simp [zL,qV,zW,zQ,zK] at h9;omega) (by have h9:=cL ok;simp [zL,qV,zW,zQ,zK] at h9;omega) v hv hx
 | 10,_,_,ok=>l5do_10 B g x a b c n w h s ok (by have h9:=cL ok;simp [zL,qV,zW,zQ,zK] at h9;omega) v hv hx
 | 11,_,_,ok=>l5do_11 B g x a b c n w h s ok (by have h9:=cL ok;simp [zL,qV,zW,zQ,zK] at h9;omega) v hv hx
 | 12,_,_,ok=>l5do_12 B g x a b c n w h s ok (by have h9:=cL ok;simp [zL,qV,zW,zQ,zK] at h9;omega) v hv hx
 | 13,_,_,ok=>l5do_13 B g x a b c n w h s ok (by have h9:=cL ok;simp [zL,qV,zW,zQ,zK] at h9;omega) (by have h9:=cL ok;simp [zL,qV,zW,zQ,zK] at h9;omega) v hx
 | 14,_,_,ok=>l5do_14 B g x a b c n w h s ok (by have h9:=cL ok;simp [zL,qV,zW,zQ,zK] at h9;omega) v hx
 | 15,_,_,ok=>l5do_15 B g x a b c n w h s ok (by have h9:=cL ok;simp [zL,qV,zW,zQ,zK] at h9;omega) v hx
 | 16,_,_,ok=>l5do_16 B g x a b c n w h s ok (by have h9:=cL ok;simp [zL,qV,zW,zQ,zK] at h9;omega) v hx
 | 17,_,_,ok=>l5do_17 B g x a b c n w h s ok (by have h9:=cL ok;simp [zL,qV,zW,zQ,zK] at h9;omega) v hx
 | 18,_,_,ok=>l5do_18 B g x a b c n w h s ok v hv hx
 | 19,_,_,ok=>l5do_19 B g x a b c n w h s ok (by have h9:=cL ok;simp [zL,qV,zW,zQ,zK] at h9;omega) v hv hx
 | 20,_,_,ok=>l5do_20 B g x a b c n w h s ok v hx
 | 21,_,_,ok=>l5do_21 B g x a b c n w h s ok v hx
 | 22,_,_,ok=>l5do_22 B g x a b c n w h s ok (by have h9:=cL ok;simp [zL,qV,zW,zQ,zK] at h9;omega) v hv hx
 | 23,_,_,ok=>l5do_23 B g x a b c n w h ok v hv hx
 | 24,_,_,ok=>l5do_24 B g x a b c n w h s ok v hv hx
 | k+25,_,h2,_=>absurd h2 (by omega)
theorem c7x[p:Inhabited uN](B g:Nat)(x:Hp)(op a b c n:Int)(w:World)(h:GOk B w g x)(s:Snd x)(v:World)(hv:v.heap.size<=B)(hx:Ext v w):
  Calls Tryz.prog 234 #[.pointer (some ⟨g,0,none⟩),qZ op a b c n] w λe w'=>b5w B g x op a b c n v e w':=by
 cases ok:dU op a b c n
 ·exact l5do_no B g x op a b c n w h ok v hx
 ·have hb:=cL ok;obtain⟨k,rfl⟩:∃k:Nat,op=k:=⟨op.toNat,by omega⟩;obtain⟨a,rfl⟩:∃k:Nat,a=k:=⟨a.toNat,by omega⟩;obtain⟨b,rfl⟩:∃k:Nat,b=k:=⟨b.toNat,by omega⟩;obtain⟨c,rfl⟩:∃k:Nat,c=k:=⟨c.toNat,by omega⟩;exact(l5do_ok B g x a b c n w h s v hv hx k (by omega) (by omega) ok).mono λ_ _ hh=>hh.is ok
theorem c4y{w wr:World}{xs:List Int}(hlt:k<xs.length)(hm:∀j (hj:j<xs.length),j<k->yQ wr w.heap.size (0+j*1) xs[j])(ho:∀j,j<xs.length*1->yU wr w.heap.size j)(hbl:Ext w wr)(hnf:Nf1 w.heap.size wr):
  let W:=wr.setCell ⟨w.heap.size,k,none⟩ (iv xs[k])
  (∀j (hj:j<xs.length),j<k+1->yQ W w.heap.size (0+j*1) xs[j])/\(∀j,j<xs.length*1->yU W w.heap.size j)/\Ext w W/\Nf1 w.heap.size W:=by
 intro W;refine⟨λj hj hjk=>?_,λj hj=>(ho j hj).set _ _,hbl.setCell (Nat.le_refl _) _,hnf.set _ _⟩;by_cases e:j=k
 ·subst e;show W.cell? _=_;have:=(ho j (by omega)).same (iv xs[j])
  simpa using this
 ·show W.cell? _=_;rw[uC _ (Or.inr (by omega))];exact hm j hj (by omega)
end Go.Proofs.YtddkhnclmeikfaaGreat
