import Derived.Test.YtddkhnclmeikfaaGreatLt
import Derived.Test.YtddkhnclmeikfaaGreatImpJ
import Derived.Test.YtddkhnclmeikfaaGreatEc0
import Derived.Test.YtddkhnclmeikfaaGreatPq
import Derived.Test.YtddkhnclmeikfaaGreatPw
import Derived.Test.YtddkhnclmeikfaaGreatTd
set_option maxRecDepth 100000
set_option maxHeartbeats 4000000
namespace Go.Proofs.YtddkhnclmeikfaaGreat
open Go.RowKit Tryz
attribute [local go_sem ↓] Go.wp_at_zero Go.wp_at_succ
variable{B kr kc kg g U kn:Nat}{w w':World}{ar ac ag:Option Addr}{x y:Hp}
theorem a6g[Inhabited uQ](B g:Nat)(x:Hp)(w:World)(h:GOk B w g x)(s:Snd x)(A:x.E≠0)(a:World)(j:a.heap.size<=B)(i:Ext a w):
  Calls prog 116 #[pP g] w λe w'=>e=.returned (.tuple #[])/\GOk B w' g (cE x)/\Ext a w':=by
 obtain⟨_,_,f,_,z,v⟩:=h.box;have t:B<=w.heap.size:=by omega
 have u:x.E=1\/x.E=2\/x.E=3\/x.E=4\/x.E=5\/x.E=6:=by have:=s.r1.E;omega
 have l:=uU (show x.E=1->Calls prog 187 #[pP g] w λe w'=>e=.returned (.tuple #[])/\GOk B w' g (cE x)/\Ext a w' from λe=>by
  have:cE x=dC x:=by unfold cE;rw[if_pos e]
  rw[this];exact c1r B g x w h s a j i t)
 have q:=uU (show x.E=2->Calls prog 188 #[pP g] w λe w'=>e=.returned (.tuple #[])/\GOk B w' g (cE x)/\Ext a w' from λe=>by
  have:cE x=cX x:=by unfold cE;rw[if_neg (by omega),if_pos e]
  rw[this];exact c4q B g x w h s e a j i)
 have m:=uU (show x.E=3->Calls prog 189 #[pP g] w λe w'=>e=.returned (.tuple #[])/\GOk B w' g (cE x)/\Ext a w' from λe=>by
  have:cE x=cY x:=by unfold cE;rw[if_neg (by omega),if_neg (by omega),if_pos e]
  rw[this];exact c1y B g x w h s a j i)
 have n:=uU (show x.E=4->Calls prog 190 #[pP g] w λe w'=>e=.returned (.tuple #[])/\GOk B w' g (cE x)/\Ext a w' from λe=>by
  have:cE x=unit4 x:=by unfold cE;rw[if_neg (by omega),if_neg (by omega),if_neg (by omega),if_pos e]
  rw[this];exact c4o B g x w h s a j i)
 have o:=uU (show x.E=5->Calls prog 191 #[pP g] w λe w'=>e=.returned (.tuple #[])/\GOk B w' g (cE x)/\Ext a w' from λe=>by
  have:cE x=cV x:=by unfold cE;rw[if_neg (by omega),if_neg (by omega),if_neg (by omega),if_neg (by omega),if_pos e]
  rw[this];exact c4p B g x w h s e a j i)
 have p:=uU (show x.E=6->Calls prog 192 #[pP g] w λe w'=>e=.returned (.tuple #[])/\GOk B w' g (cE x)/\Ext a w' from λe=>by
  have:cE x=hE x:=by unfold cE;rw[if_neg (by omega),if_neg (by omega),if_neg (by omega),if_neg (by omega),if_neg (by omega),if_pos e]
  rw[this];exact c1u B g x w h s a j i)
 obtain⟨y,r⟩:∃y,y=cE x:=⟨_,rfl⟩;rw[<-r] at l q m n o p ⊢;rcases u with e | e | e | e | e | e
 ·rw[e] at f;have Q:=uU (l e);go_enter func116,ntmps116;go_wp2_with fail;refine Q.mono ?_;rintro e k ⟨rfl,d,b⟩;have c:=uU d;go_wp2_with fail
  go_end0
  exact⟨rfl,c,b⟩
 ·rw[e] at f;have Q:=uU (q e);go_enter func116,ntmps116;go_wp2_with fail;refine Q.mono ?_;rintro e k ⟨rfl,d,b⟩;have c:=uU d;go_wp2_with fail
  go_end0
  exact⟨rfl,c,b⟩
 ·rw[e] at f;have Q:=uU (m e);go_enter func116,ntmps116;go_wp2_with fail;refine Q.mono ?_;rintro e k ⟨rfl,d,b⟩;have c:=uU d;go_wp2_with fail
  go_end0
  exact⟨rfl,c,b⟩
 ·rw[e] at f;have Q:=uU (n e);go_enter func116,ntmps116;go_wp2_with fail;refine Q.mono ?_;rintro e k ⟨rfl,d,b⟩;have c:=uU d;go_wp2_with fail
  go_end0
  exact⟨rfl,c,b⟩
 ·rw[e] at f;have Q:=uU (o e);go_enter func116,ntmps116;go_wp2_with fail;refine Q.mono ?_;rintro e k ⟨rfl,d,b⟩;have c:=uU d;go_wp2_with fail
  go_end0
  exact⟨rfl,c,b⟩
 ·rw[e] at f;have Q:=uU (p e);go_enter func116,ntmps116;go_wp2_with fail;refine Q.mono ?_;rintro e k ⟨rfl,d,b⟩;have c:=uU d;go_wp2_with fail
  go_end0
  exact⟨rfl,c,b⟩
theorem a4s[Inhabited uQ](B g:Nat)(x:Hp)(w:World)(h:GOk B w g x)(a:World)(j:a.heap.size<=B)(i:Ext a w):
  Calls prog 115 #[pP g] w λe w'=>e=.returned (.tuple #[])/\GOk B w' g (cZ x 1 0)/\Ext a w':=by
 have d:=uU h;go_enter func115,ntmps115;go_wp2_with fail;refine(a1h B g x 1 0 _ d a j i).mono ?_;rintro e k ⟨rfl,c,f⟩;have b:=uU c;go_wp2_with fail
 go_end0
 exact⟨rfl,b,f⟩
theorem c1z[Inhabited uQ](B g:Nat)(x:Hp)(n:Nat)(w:World)(h:GOk B w g x)(s:Snd x)(E:n≠0)(K:n<=100000)(C:x.E≠0)(a:World)(F:a.heap.size<=B)(D:Ext a w):
  Calls prog 84 #[pP g,iv n] w λe w'=>∃k:Nat,e=.returned (iv k)/\Hid (a7p x n k)/\GOk B w' g (itU k x)/\Ext a w':=by
 have u:=uU h;obtain⟨_,_,y,_,I,o⟩:=h.box;have S:=uU s;have J:((n:Int) == 0)=false:=by simpa using E
 have G:(x.E == 0)=false:=by simpa using C
 have t:=D;go_enter func84,ntmps84;go_wp2_with fail;go_loopw [5] (λd wr=>∃k:Nat,k<=n/\d=iv k/\Hid (yD x k)/\Hid (GOk B wr g (itU k x))/\Ext a wr) (λd _=>n-(intOf d).toNat)
 case atStart=>exact⟨0,Nat.zero_le _,rfl,yD.zero _,u,t⟩
 case round=>
  obtain⟨k,l,rfl,j,f,b⟩:=hrel;obtain⟨_,_,y,_,_,o⟩:=f.box;cases q:((itU k x).E == 0)
  ·have r:((itU k x).E != 0)=true:=by simpa using q
   have i:=uU (show(itU k x).E≠0 by simpa using q);by_cases m:k<n
   ·have p:(k:Int)<(n:Int):=by omega
    go_wp2_with fail;refine(a6g B g _ _ f (S.itU k) i a F b).mono ?_;rintro e H ⟨rfl,A,v⟩;have z:=uU A;have R3:=uU (j.succ i);go_wp2;go_roundw
    case rel=>exact⟨k+1,by omega,by go_num,R3,z,v⟩
    case measure=>simp [intOf];omega
   ·have p:¬(k:Int)<(n:Int):=by omega
    have c:=uU (show k=n by omega);go_wp2;go_ret;exact⟨k,rfl,⟨j,l,.inl c⟩,f,b⟩
  ·have r:((itU k x).E != 0)=false:=by simpa using q
   have i:=uU (show(itU k x).E=0 by simpa using q);by_cases m:k<n
   ·have p:(k:Int)<(n:Int):=by omega
    go_wp2;go_ret;exact⟨k,rfl,⟨j,l,.inr i⟩,f,b⟩
   ·have p:¬(k:Int)<(n:Int):=by omega
    have c:=uU (show k=n by omega);go_wp2;go_ret;exact⟨k,rfl,⟨j,l,.inl c⟩,f,b⟩
theorem b9j[Inhabited uQ](B g:Nat)(x:Hp)(n:Nat)(w:World)(h:GOk B w g x)(s:Snd x)(D:n≠0)(N:n<=100000)(t:x.E=0)(a:World)(E:a.heap.size<=B)(I:Ext a w):
  Calls prog 84 #[pP g,iv n] w λe w'=>∃k:Nat,e=.returned (iv k)/\Hid (a7p (cZ x 1 0) n k)/\GOk B w' g (itU k (cZ x 1 0))/\Ext a w':=by
 obtain⟨_,_,l,_,K,c⟩:=h.box;have S:=uU (s.begin t);have L:((n:Int) == 0)=false:=by simpa using D
 rw[t] at l;obtain⟨y,u⟩:∃y,y=cZ x 1 0:=⟨_,rfl⟩;have A:=uU (a4s B g x w h a E I);rw[<-u] at S A ⊢;clear h s t D u;go_enter func84,ntmps84;go_wp2_with fail;refine A.mono ?_;rintro e M ⟨rfl,f,v⟩;have z:=uU f;obtain⟨_,_,l,_,_,c⟩:=f.box;clear f;go_wp2_with fail;go_loopw [5] (λd wr=>∃k:Nat,k<=n/\d=iv k/\Hid (yD y k)/\Hid (GOk B wr g (itU k y))/\Ext a wr) (λd _=>n-(intOf d).toNat)
 case atStart=>exact⟨0,Nat.zero_le _,rfl,yD.zero _,z,v⟩
 case round=>
  clear z v l c;obtain⟨k,p,rfl,o,j,b⟩:=hrel;obtain⟨_,_,l,_,_,c⟩:=j.box;cases q:((itU k y).E == 0)
  ·have F:((itU k y).E != 0)=true:=by simpa using q
   have m:=uU (show(itU k y).E≠0 by simpa using q);by_cases r:k<n
   ·have f:(k:Int)<(n:Int):=by omega
    go_wp2_with fail;refine(a6g B g _ _ j (S.itU k) m a E b).mono ?_;rintro e J ⟨rfl,C,G⟩;have H:=uU C;have R3:=uU (o.succ m);clear C l c;go_wp2_with fail;go_roundw
    case rel=>exact⟨k+1,by omega,by go_num,R3,H,G⟩
    case measure=>simp [intOf];omega
   ·have f:¬(k:Int)<(n:Int):=by omega
    have i:=uU (show k=n by omega);go_wp2_with fail;go_ret;exact⟨k,rfl,⟨o,p,.inl i⟩,j,b⟩
  ·have F:((itU k y).E != 0)=false:=by simpa using q
   have m:=uU (show(itU k y).E=0 by simpa using q);by_cases r:k<n
   ·have f:(k:Int)<(n:Int):=by omega
    go_wp2_with fail;go_ret;exact⟨k,rfl,⟨o,p,.inr m⟩,j,b⟩
   ·have f:¬(k:Int)<(n:Int):=by omega
    have i:=uU (show k=n by omega);go_wp2_with fail;go_ret;exact⟨k,rfl,⟨o,p,.inl i⟩,j,b⟩
theorem c2a(g:Nat)(w:World):Calls prog 84 #[pP g,iv 0] w λe w'=>e=.returned (iv 0)/\w'=w:=by
 go_enter func84,ntmps84;go_wp2;go_ret;exact⟨rfl,rfl⟩
theorem a9s[Inhabited uQ](B g:Nat)(x:Hp)(n:Nat)(w:World)(h:GOk B w g x)(s:Snd x)(f:n<=100000)(a:World)(i:a.heap.size<=B)(d:Ext a w):
  Calls prog 84 #[pP g,iv n] w λe w'=>∃k:Nat,e=.returned (iv k)/\Hid (a7p (stepH x n) n k)/\GOk B w' g (itU k (stepH x n))/\Ext a w':=by
 by_cases c:n=0
 ·subst c;have e:stepH x 0=x:=by unfold stepH;rw[if_neg (λh=>h.2 rfl)]
  rw[e];refine(c2a g w).mono ?_;rintro e w' ⟨rfl,rfl⟩;exact⟨0,rfl,⟨yD.zero _,Nat.le_refl _,.inl rfl⟩,h,d⟩
 ·by_cases b:x.E=0
  ·have e:stepH x n=cZ x 1 0:=by unfold stepH;rw[if_pos ⟨b,c⟩]
   rw[e];exact b9j B g x n w h s c f b a i d
  ·have e:stepH x n=x:=by unfold stepH;rw[if_neg (λh=>b h.1)]
   rw[e];exact c1z B g x n w h s c f b a i d
theorem b7s[Inhabited uQ](B g:Nat)(x:Hp)(w:World)(h:GOk B w g x)(s:Snd x)(a:World)(z:a.heap.size<=B)(y:Ext a w):
  Calls prog 86 #[pP g] w λe w'=>∃k:Nat,e=.returned (iv k)/\Hid (c1p x k)/\GOk B w' g (itU k x)/\Ext a w':=by
 have n:=uU h;have S:=uU s;have m:=y;go_enter func86,ntmps86;go_wp2_with fail
 go_loopg [3] (14000000) (λp d wr=>∃k:Nat,d=iv k/\Hid (yD x k)/\Hid (mu (itU k x)<=p)/\Hid (GOk B wr g (itU k x))/\Ext a wr)
 case atStart=>exact⟨0,rfl,yD.zero _,S.mu_le,n,m⟩
 case round=>
  obtain⟨k,rfl,i,j,f,b⟩:=hrel;obtain⟨_,_,C,_,_,r⟩:=f.box;have A:=i.le S;cases q:((itU k x).E == 0)
  ·have l:((itU k x).E != 0)=true:=by simpa using q
   have c:=uU (show(itU k x).E≠0 by simpa using q);go_wp2_with fail;refine(a6g B g _ _ f (S.itU k) c a z b).mono ?_;rintro e D ⟨rfl,u,o⟩;have t:=uU u;have R3:=uU (i.succ c);have v:=uU (show mu (itU (k+1) x)<mu (itU k x) from(S.itU k).less c);have E:wrap64 ((k:Int)+1)=(k:Int)+1:=by unfold wrap64;omega
   go_wp2_with fail
   go_roundg (mu (itU (k+1) x))
   case measure=>have:=uH v;have:=uH j;omega
   case rel=>exact⟨k+1,by go_num,R3,Nat.le_refl _,t,o⟩
  ·have l:((itU k x).E != 0)=false:=by simpa using q
   have c:=uU (show(itU k x).E=0 by simpa using q);go_wp2;go_ret;exact⟨k,rfl,⟨c,i⟩,f,b⟩
theorem b3k[Inhabited uQ](B g:Nat)(x:Hp)(w:World)(h:GOk B w g x)(s:Snd x)(a:World)(d:a.heap.size<=B)(A:Ext a w):
  Calls prog 88 #[pP g] w λe w'=>∃y z,e=.returned (.tuple #[])/\Hid (b2g x y/\b2g (cZ y 1 0) z)/\GOk B w' g z/\Ext a w':=by
 have l:=uU h;have S:=uU s;go_enter func88,ntmps88;go_wp2_with fail;refine(b7s B g x _ l S a d A).mono ?_;rintro e E ⟨k,rfl,c,j,u⟩;obtain⟨y,f⟩:∃y,y=itU k x:=⟨_,rfl⟩;rw[<-f] at j;have b:=uU (show b2g x y from⟨k,c,f⟩);have o:=uU j;go_wp2_with fail;refine(a4s B g y _ o a d u).mono ?_;rintro e C ⟨rfl,r,n⟩;have p:=uU r;go_wp2_with fail;refine(b7s B g _ _ p ((b.snd S).1.begin (b.snd S).2) a d n).mono ?_;rintro e D ⟨i,rfl,c,v,m⟩;have q:=uU (show b2g (cZ y 1 0) (itU i (cZ y 1 0)) from⟨i,c,rfl⟩);have t:=uU v;go_wp2_with fail
 go_end0
 exact⟨y,_,rfl,⟨b,q⟩,t,m⟩
theorem cC(n:Int)(w:World):Calls prog 161 #[iv n] w λe w'=>e=.returned (eX 0 n)/\Ext w w':=by
 go_enter func161,ntmps161;go_wp2_with fail
 first
  | (go_ret;exact⟨rfl,by repeat (first | exact Ext.refl _ | refine Ext.alloc ?_ _)⟩)
  | exact bodyPost_ret (v:=eX 0 n) (by simp [results,results161,go_sem]) rfl ⟨rfl,by repeat (first | exact Ext.refl _ | refine Ext.alloc ?_ _)⟩
theorem a0m(n:Int)(w:World):Calls prog 159 #[iv n] w λe w'=>e=.returned (eX n 0)/\Ext w w':=by
 go_enter func159,ntmps159;go_wp2_with fail
 first
  | (go_ret;exact⟨rfl,by repeat (first | exact Ext.refl _ | refine Ext.alloc ?_ _)⟩)
  | exact bodyPost_ret (v:=eX n 0) (by simp [results,results159,go_sem]) rfl ⟨rfl,by repeat (first | exact Ext.refl _ | refine Ext.alloc ?_ _)⟩
theorem GOk.set12[Inhabited uQ](h:GOk B w g x)(v:Int):GOk B (w.setCell (aA g 12) (iv v)) g { x with S:=v }:=by
 obtain⟨m,e,f,d,b,c,l,k,j,i,a,h⟩:=h;exact⟨_,_,_,_,_,_,_,_,_,_,_,h.boxed (x':={ x with S:=v }) (uX.setCell (S:=λq=>q=g) (uX.refl _ w) (p:=(aA g 12)) rfl _) (h.nf.set _ _) rfl rfl rfl (h.bx.set12 v)⟩
theorem GOk.set2[Inhabited uQ](h:GOk B w g x)(v:Int):GOk B (w.setCell (aA g 2) (iv v)) g { x with born:=v }:=by
 obtain⟨m,e,f,d,b,c,l,k,j,i,a,h⟩:=h;exact⟨_,_,_,_,_,_,_,_,_,_,_,h.boxed (x':={ x with born:=v }) (uX.setCell (S:=λq=>q=g) (uX.refl _ w) (p:=(aA g 2)) rfl _) (h.nf.set _ _) rfl rfl rfl (h.bx.set2 v)⟩
theorem GOk.nums[Inhabited uQ](h:GOk B w g x):w.cell? (aA g 0)=some (iv x.M)/\w.cell? (aA g 1)=some (iv x.K)/\w.cell? (aA g 2)=some (iv x.born)/\w.cell? (aA g 5)=some (iv x.E)/\w.cell? (aA g 9)=some (iv x.per)/\w.cell? (aA g 10)=some (iv x.V)/\w.cell? (aA g 12)=some (iv x.S):=by
 obtain⟨m,n,y,l,s,u,p,o,z,v,c,h⟩:=h;obtain⟨f,d,j,r,C,i,A,q,t,e,b,k,a⟩:=h.bx;exact⟨f,d,j,i,e,b,a⟩
theorem b5y[Inhabited uQ](B g:Nat)(x:Hp)(u:Nat)(w:World)(h:GOk B w g x)(s:Snd x)(hu:u<=201)(a:World)(M:a.heap.size<=B)(L:Ext a w):
  Calls prog 260 #[pP g,iv u] w λe w'=>∃y,e=.returned (.bool (a2q y u))/\Hid (a4x x u y)/\Hid (GOk B w' g y)/\Ext a w':=by
 have H:=uU h;obtain⟨R,N,Z,Y,O,F,j⟩:=h.nums;have D:g<w.heap.size:=h.box.2.2.2.2.2;have k:=h.box.2.2.2.1 12;have U:a.heap.size<=g:=Nat.le_trans M h.box.2.2.2.2.1;have us:0<=x.K/\x.K<=4000:=by have G:=s.r3;have A:=s.r1.M;unfold R3 at G;omega
 have fo:=s.r1.S;have S:=uU s;have wu:wrap64 (x.K+(u:Int))=x.K+(u:Int):=a3n _ (by omega) (by omega);clear h s;cases q:a2q x u
 ·have V:¬(x.K+(u:Int)<=x.M):=by simpa [a2q] using q
  have Q:=uU q;clear q
  have m:=uU (show ∀(c:World) (y:Hp),Snd y->GOk B c g y->(c.cell? (aA g 0)=some (iv y.M)/\c.cell? (aA g 1)=some (iv y.K)/\wrap64 (y.K+(u:Int))=y.K+(u:Int)/\g<c.heap.size) from λc y i b=>by
   have aa:0<=y.K/\y.K<=4000:=by have G:=i.r3;have A:=i.r1.M;unfold R3 at G;omega
   exact⟨b.nums.1,b.nums.2.1,a3n _ (by omega) (by omega),uL b.nums.1⟩)
  have d:=uU (show ∀(n:World),GOk B n g (forceTo x)->Ext a n->Calls prog 88 #[pP g] n λe w'=>∃y,e=.returned (.tuple #[])/\Hid (a4x x u y)/\Hid (Snd y)/\Hid (GOk B w' g y)/\Ext a w' from λn A x1=>(b3k B g _ n A S.forceTo a M x1).mono λe c ⟨y,z,T,f,b,l⟩=>⟨z,T,.inr ⟨Q,⟨y,f.1,f.2⟩⟩,c1q.snd S.forceTo ⟨y,f.1,f.2⟩,b,l⟩);go_enter func260,ntmps260;go_wp2_with fail;go_quiet (fail);obtain⟨W,C⟩:∃W,W=w.drewN nq:=⟨_,rfl⟩;rw[<-C];have r:Ext w W:=by rw[C];exact Ext.drewN (Ext.refl w) nq
  have K:=uU (H.ext r);have I:=uU (L.trans r);have X:=r.keep j;have ab:=((uK r).2 g 12 D).trans k;clear C R N Z Y O F j k r;by_cases J:x.S<1000000000
  ·have t:=uU (show GOk B (W.setCell (aA g 12) (iv (x.S+1))) g (forceTo x) by
    have:=K.set12 (x.S+1);unfold forceTo;rw[if_pos J];exact this)
   have X1:=uU (I.setCell (p:=(aA g 12)) U (iv (x.S+1)));have wf:wrap64 (x.S+1)=x.S+1:=by unfold wrap64;omega
   go_wp2_with fail;refine(d _ t X1).mono ?_;rintro e c ⟨y,rfl,f,i,b,l⟩;obtain⟨P,d1,v,o⟩:=uH m c y i b;go_wp2_with fail;go_quiet (fail);go_wp2_with fail;go_ret;exact⟨y,rfl,f,b.ext (Ext.drewN (Ext.refl _) _),Ext.drewN l _⟩
  ·have t:=uU (show GOk B W g (forceTo x) by
    unfold forceTo;rw[if_neg J];exact K)
   go_wp2_with fail;refine(d _ t I).mono ?_;rintro e c ⟨y,rfl,f,i,b,l⟩;obtain⟨P,d1,v,o⟩:=uH m c y i b;go_wp2_with fail;go_quiet (fail);go_wp2_with fail;go_ret;exact⟨y,rfl,f,b.ext (Ext.drewN (Ext.refl _) _),Ext.drewN l _⟩
 ·have V:x.K+(u:Int)<=x.M:=by simpa [a2q] using q
  have E:=uU q;clear q;go_enter func260,ntmps260;go_wp2_with fail;go_quiet (fail);go_wp2_with fail;go_ret;exact⟨x,by rw[uH E];rfl,.inl ⟨E,rfl⟩,H.ext (Ext.drewN (Ext.refl _) _),Ext.drewN L _⟩
theorem a9t[Inhabited uQ](B g:Nat)(x:Hp)(u:Nat)(w:World)(h:GOk B w g x)(s:Snd x)(hu:u<=201)(a:World)(Q:a.heap.size<=B)(o:Ext a w):
  Calls prog 261 #[pP g,iv u] w λe w'=>∃y,e=.returned (.tuple #[])/\Hid (a4y x u y)/\Hid (GOk B w' g y)/\Ext a w':=by
 have f:=uU h;obtain⟨c0,c1,c2,H,U,M,D⟩:=h.nums;have L:g<w.heap.size:=h.box.2.2.2.2.2;have pr:=s.r1.per;have S:=uU s;obtain⟨p,v⟩:∃p:Nat,x.per=(p:Int):=⟨x.per.toNat,by omega⟩;have r:=uU v;rw[v] at U;have n:p<=64:=by omega
 have K:p*u<=64*201:=Nat.mul_le_mul n hu;have d:((p:Int)*(u:Int))=((p*u:Nat):Int):=by simp
 obtain⟨m,I⟩:∃m,m=p*u:=⟨_,rfl⟩;rw[<-I] at K d;have wm:wrap64 ((p:Int)*(u:Int))=(m:Int):=by rw[d];exact a3n _ (by omega) (by omega)
 have O:=uU (show x.per.toNat*u=m by rw[v,I];simp);have t:=uU (show b0v x u=(x.per == 0 || (u == 0 || (x.E == 0 && decide (x.K<=x.V)))) from rfl);clear h s v I d;cases N:((p:Int) == 0)
 ·have A:p≠0:=by simpa using N
  cases Y:((u:Int) == 0)
  ·have i:u≠0:=by simpa using Y
   have M0:=uU (show m≠0 by
    have:=uH O;rw[uH r,Int.toNat_natCast] at this;rw[<-this];exact Nat.mul_ne_zero A i)
   have c:=uU (show b0v x u=(x.E == 0 && decide (x.K<=x.V)) by
    rw[uH t,uH r,show((p:Int) == 0)=false from N,show(u == 0)=false by simpa using i];rfl)
   clear t;cases q:(x.E == 0)
   ·have F:=uU (show b0v x u=false by rw[uH c,q];rfl);go_enter func261,ntmps261;go_wp2_with fail;refine(a9s B g x m _ f S (by omega) a Q o).mono ?_;rintro e w2 ⟨k,rfl,l,j,J⟩;have P:=uU j;have R:=uU (show a4y x u (itU k (stepH x m)) from .inr ⟨F,k,by rw[uH O];exact⟨l,rfl⟩⟩);clear j l;go_wp2_with fail
    go_end0
    exact⟨_,rfl,R,P,J⟩
   ·have P0:=uU (show x.E=0 by simpa using q);have b:=uH P0;by_cases X:x.K<=x.V
    ·have T:=uU (show b0v x u=true by rw[uH c,q,decide_eq_true X];rfl);rw[b] at H;clear b;go_enter func261,ntmps261;go_wp2_with fail;go_quiet (fail);go_wp2_with fail;refine bodyPost_ret (results_none rfl _ _ _) rfl ?_;exact⟨x,rfl,.inl ⟨T,rfl⟩,f.ext (Ext.drewN (Ext.refl _) _),Ext.drewN o _⟩
    ·have F:=uU (show b0v x u=false by rw[uH c,q,decide_eq_false X];rfl);have EX:=uU (show stepH x m=cZ x 1 0 by unfold stepH;rw[if_pos ⟨b,uH M0⟩]);have z:=uU (show stepH (cZ x 1 0) m=cZ x 1 0 by unfold stepH;rw[if_neg (λh=>by have:=h.1;simp [cZ] at this)]);have S1:=uU (S.begin b);rw[b] at H;clear b;go_enter func261,ntmps261;go_wp2_with fail;go_quiet (fail);obtain⟨W,G⟩:∃W,W=w.drewN nq:=⟨_,rfl⟩;rw[<-G];have E:Ext w W:=by rw[G];exact Ext.drewN (Ext.refl w) nq
     have HW:=uU (f.ext E);have XW:=uU (o.trans E);clear G c0 c1 c2 H U M D L E;go_wp2_with fail;refine(a4s B g x _ HW a Q XW).mono ?_;rintro e w1 ⟨rfl,C,x1⟩;have H1:=uU C;have V:=C.nums.2.2.2.2.1;rw[show(cZ x 1 0).per=(p:Int) from uH r] at V;have Z:g<w1.heap.size:=uL V;clear C;go_wp2_with fail;refine(a9s B g (cZ x 1 0) m _ H1 S1 (by omega) a Q x1).mono ?_;rintro e w2 ⟨k,rfl,l,j,J⟩;have P:=uU j;have R:=uU (show a4y x u (itU k (stepH (cZ x 1 0) m)) from .inr ⟨F,k,by rw[uH O,uH EX];have:=uH l;rw[uH z] at this ⊢;exact⟨this,rfl⟩⟩);clear j l;go_wp2_with fail
     go_end0
     exact⟨_,rfl,R,P,J⟩
  ·have T:=uU (show b0v x u=true by rw[uH t,show(u == 0)=true by simpa using Y];simp);go_enter func261,ntmps261;go_wp2_with fail;refine bodyPost_ret (results_none rfl _ _ _) rfl ?_;exact⟨x,rfl,.inl ⟨T,rfl⟩,f,o⟩
 ·have T:=uU (show b0v x u=true by rw[uH t,uH r,show((p:Int) == 0)=true from N];rfl);go_enter func261,ntmps261;go_wp2_with fail;refine bodyPost_ret (results_none rfl _ _ _) rfl ?_;exact⟨x,rfl,.inl ⟨T,rfl⟩,f,o⟩
theorem c3h[Inhabited uQ]{b:Nat}{a4:Option Addr}{n4 k4:Nat}{a8:Option Addr}{n8 k8:Nat}{br bn:Nat}{cB cO:Nat->Nat}{pb:Nat->Nat}{pa:Nat->Option Addr}{pk:Nat->Nat}{hd:Nat}{vf:Value}{F:List Int}{vk:Value}{K:List Nat}{role:Nat->Nat}(w:World)
  (h:SAt B w b x ar kr (.slice a4 n4 k4) (.slice a8 n8 k8) br cB cO bn pb pa pk kn hd vf F vk K role) (hG:∀g,g∈x.D->0<=g/\g<x.A.length) (hr:0<x.B.length) (l:x.B.length<=100/\x.A.length<=8000/\x.D.length<=8000/\∀q,q<x.A.length->(x.c q).F.length<=200) (hB:B<=w.heap.size) :
  Calls prog 59 #[pP b] w λe w'=>∃bcN bgN,e=.returned (x.v (sS br x.B.length kr) (sS bcN x.A.length x.A.length) (sS bgN x.D.length x.D.length))/\Hid (a9y B w'.heap.size w' x br kr bcN x.A.length bgN x.D.length pb pa pk)/\Ext w w':=by
 have H:=uU h;obtain⟨c0,c1,c2,c3,c4,c5,c6,c7,c8,c9,ah,al,ak⟩:=h.sb.bx;rw[h.sb.ha hr] at c3;have hb:=h.sb.nb.1;have HG:=uU hG;have HL:=uU l;have T:=((Ext.refl w).alloc (.cells #[iv 0,iv 0,iv 0,.slice none 0 0,.slice none 0 0,iv 0,iv 0,iv 0,.slice none 0 0,iv 0,iv 0,iv 0,iv 0] 34)).alloc (.cells #[iv x.M,iv x.K,iv x.born,sS br x.B.length kr,.slice a4 n4 k4,iv x.E,iv x.I,iv x.sub,.slice a8 n8 k8,iv x.per,iv x.V,iv x.Q,iv x.S] 34);have B1:=dK.new (w.alloc (.cells #[iv 0,iv 0,iv 0,.slice none 0 0,.slice none 0 0,iv 0,iv 0,iv 0,.slice none 0 0,iv 0,iv 0,iv 0,iv 0] 34)) x (sS br x.B.length kr) (.slice a4 n4 k4) (.slice a8 n8 k8) 34;have ab:(w.alloc (.cells #[iv 0,iv 0,iv 0,.slice none 0 0,.slice none 0 0,iv 0,iv 0,iv 0,.slice none 0 0,iv 0,iv 0,iv 0,iv 0] 34)).heap.size=w.heap.size+1:=by simp
 rw[ab] at B1;have D:((w.alloc (.cells #[iv 0,iv 0,iv 0,.slice none 0 0,.slice none 0 0,iv 0,iv 0,iv 0,.slice none 0 0,iv 0,iv 0,iv 0,iv 0] 34)).alloc (.cells #[iv x.M,iv x.K,iv x.born,sS br x.B.length kr,.slice a4 n4 k4,iv x.E,iv x.I,iv x.sub,.slice a8 n8 k8,iv x.per,iv x.V,iv x.Q,iv x.S] 34)).heap.size=w.heap.size+2:=by simp
 go_enter func59,ntmps59;go_wp2_with fail;refine(c5r b bn hd x.A.length x.D _ (H.ext T).sb.rg (λi hi=>((H.ext T).sb.nd i hi).1) HG).mono ?_;rintro e m ⟨rfl,M,G,N⟩;rw[D] at M G ⊢;have ag:w.heap.size+2<m.heap.size:=G.1;have E:=uU (B1.ext N);have X1:=T.trans N;have GS:=uU (And.intro M G);have d8:=E.2.2.2.2.2.2.2.2.1;have d4:=E.2.2.2.2.1;have fz:∀o,m.frozen? (aA (w.heap.size+1) o)=false:=λo=>((uK N).2 (w.heap.size+1) o (by rw[D];omega)).trans (by simp [go_sem])
 have rc:=uU (show ∀o v,((w.alloc (.cells #[iv 0,iv 0,iv 0,.slice none 0 0,.slice none 0 0,iv 0,iv 0,iv 0,.slice none 0 0,iv 0,iv 0,iv 0,iv 0] 34)).alloc (.cells #[iv x.M,iv x.K,iv x.born,sS br x.B.length kr,.slice a4 n4 k4,iv x.E,iv x.I,iv x.sub,.slice a8 n8 k8,iv x.per,iv x.V,iv x.Q,iv x.S] 34)).cell? (aA w.heap.size o)=some v->m.cell? (aA w.heap.size o)=some v from λo v h=>N.keep h);have RF:=uU (show ∀o,m.frozen? (aA w.heap.size o)=false from λo=>((uK N).2 w.heap.size o (by rw[D];omega)).trans (by simp [go_sem]));have Q:=(H.ext X1).sb.n13
 obtain⟨z,U⟩:=mkCells x.A.length (by omega) (m.setCell (aA (w.heap.size+1) 8) (sS (w.heap.size+2) x.D.length x.D.length));have u:(m.setCell (aA (w.heap.size+1) 8) (sS (w.heap.size+2) x.D.length x.D.length)).heap.size=m.heap.size:=by simp [World.setCell]
 rw[u] at U;have aj:b<m.heap.size:=by omega
 have ac:w.heap.size+1<m.heap.size:=by omega
 go_wp2_with fail
 have ST:=uU (show Tdl m (((m.setCell (aA (w.heap.size+1) 8) (sS (w.heap.size+2) x.D.length x.D.length)).setCell (aA (w.heap.size+1) 4) (sS m.heap.size x.A.length x.A.length)).alloc (.cells (madeCells z (x.A.length*8)) 62)) x (w.heap.size+1) m.heap.size (sS br x.B.length kr) (sS m.heap.size x.A.length x.A.length) (sS (w.heap.size+2) x.D.length x.D.length) pa pk 0 from by
  have hs:((m.setCell (aA (w.heap.size+1) 8) (sS (w.heap.size+2) x.D.length x.D.length)).setCell (aA (w.heap.size+1) 4) (sS m.heap.size x.A.length x.A.length)).heap.size=m.heap.size:=by simp [World.setCell]
  refine⟨((E.set8 _).set4 _).ext ((Ext.refl _).alloc _),λq _ h=>by omega,λj hj=>?_,?_,?_,⟨ac,Nat.le_refl _⟩⟩
  ·have:=a2s ((m.setCell (aA (w.heap.size+1) 8) (sS (w.heap.size+2) x.D.length x.D.length)).setCell (aA (w.heap.size+1) 4) (sS m.heap.size x.A.length x.A.length)) z (x.A.length*8) 62 j hj;rw[hs] at this;exact this
  ·have:=Nf1.made ((m.setCell (aA (w.heap.size+1) 8) (sS (w.heap.size+2) x.D.length x.D.length)).setCell (aA (w.heap.size+1) 4) (sS m.heap.size x.A.length x.A.length)) z (x.A.length*8) 62;rw[hs] at this;exact this
  ·exact(uX.setCell (S:=λq=>q=w.heap.size+1) (uX.setCell (S:=λq=>q=w.heap.size+1) (uX.refl _ m) (p:=(aA (w.heap.size+1) 8)) rfl _) (p:=(aA (w.heap.size+1) 4)) rfl _).trans (uX.of_ext ((Ext.refl _).alloc _)))
 go_loopw [29] (λi wr=>∃(k:Nat),k<=x.A.length/\i=iv k/\Hid (Tdl m wr x (w.heap.size+1) m.heap.size (sS br x.B.length kr) (sS m.heap.size x.A.length x.A.length) (sS (w.heap.size+2) x.D.length x.D.length) pa pk k)) (λi _=>x.A.length-(intOf i).toNat)
 case atStart=>exact⟨0,Nat.zero_le _,rfl,ST⟩
 case round=>
  obtain⟨k,Y,rfl,d⟩:=hrel;have C:Ext w wr:=d.on.ext X1 (λq r e=>by omega);by_cases A:k<x.A.length
  ·have R:=uU (d.step A);have c4:=d.bx.2.2.2.2.1;have Q:=(H.ext C).sb.n13;obtain⟨m0,m1⟩:=(H.ext C).sb.nd k A;obtain⟨p0,p1,p2,p3,p4,p5,p6⟩:=(H.ext C).rw.s k A;have p7:=(H.ext C).rw.p7 k A;obtain⟨⟨u0,o0⟩,f0⟩:qC wr m.heap.size (k*8):=d.o (k*8) (by omega);obtain⟨⟨u1,o1⟩,f1⟩:=d.o (k*8+1) (by omega);obtain⟨⟨u2,o2⟩,f2⟩:=d.o (k*8+2) (by omega);obtain⟨⟨u3,o3⟩,f3⟩:=d.o (k*8+3) (by omega);obtain⟨⟨u4,o4⟩,f4⟩:=d.o (k*8+4) (by omega);obtain⟨⟨u5,o5⟩,f5⟩:=d.o (k*8+5) (by omega);obtain⟨⟨u6,o6⟩,f6⟩:=d.o (k*8+6) (by omega);obtain⟨⟨u7,o7⟩,f7⟩:=d.o (k*8+7) (by omega);have k0:(0:Int)<=(k:Int):=by omega
   have k1:(k:Int)<(x.A.length:Int):=by omega
   go_wp2_with fail
   go_region
   all_goals
    go_wp2;go_roundw
    case rel=>exact⟨k+1,by omega,by go_num,R⟩
    case measure=>simp [intOf];omega
  ·have Z:k=x.A.length:=by omega
   subst Z;have WB:∀q,q<m.heap.size->q≠w.heap.size+1->wr.heap[q]?=m.heap[q]?:=λq r I=>d.on.block q r I
   have SR:=uU (H.ext C)
   have GR:=uU (show SlI wr (sS (w.heap.size+2) x.D.length x.D.length) x.D/\Nf1 (w.heap.size+2) wr from by
    have e:=WB (w.heap.size+2) (by omega) (by omega);refine⟨tJ.mono2 GS.1 λb' o n c z o' y hy=>?_,uJ GS.2 e d.on.size⟩;simp only [Value.slice.injEq,Option.some.injEq,Addr.mk.injEq] at z;obtain⟨⟨rfl,_,_⟩,_,_⟩:=z;exact(World.cell?_of_block (a:=(aA (w.heap.size+2) o')) e).trans hy)
   have RW:=uU (show ∀W,uX (λq=>q=w.heap.size) wr W->a9y B W.heap.size W x br kr m.heap.size x.A.length (w.heap.size+2) x.D.length pb pa pk from λW o=>by
    have rw:=SR.rw;have P:=H.rw.nr hr;have lp:=λq r J=>H.rw.pl q r J
    have u:=o.size;have L:=d.nf.1;have t:=rw.only o (λJ e=>by have:=P.1.1;omega) (λq r e=>by have:=(H.rw.nc q r).1.1;omega) (λq r J e=>by have:=(lp q r J).2.1.1;omega);refine⟨t.slW kr (λ_=>rfl) (by have:=HL.1;omega),λq r=>?_,λq r=>?_,?_,λq r=>?_,λq r J=>?_,(t.nr hr).1,?_,?_,⟨by have:=P.1.1;omega,by have:=P.1.1;omega,by omega⟩,λq q' r O I h1 h2=>t.dp q q' r O I (t.pw r h1) (t.pw O h2),⟨⟨P.2,by have:=P.1.1;have:=C.size;omega⟩,⟨by omega,by omega⟩,⟨by omega,by omega⟩⟩,HL,t.kp⟩
    ·exact(d.s q r r).1.of λj _=>World.cell?_of_block (a:=(aA m.heap.size _)) (o.block m.heap.size L (by omega))
    ·refine⟨_,_,rfl,by have:=HL.2.2.2 q r;omega,λk Y=>⟨pb q,0,(t.pl q r (t.pw r (by omega))).1,?_⟩⟩;rw[Nat.zero_add,Cl.p_eq _ _ Y];exact t.p q r k Y
    ·refine tJ.mono2 GR.1 λb' o2 n c z o' y hy=>?_
     simp only [Value.slice.injEq,Option.some.injEq,Addr.mk.injEq] at z;obtain⟨⟨rfl,_,_⟩,_,_⟩:=z;exact o.keep (by omega) hy
    ·exact o.keep (by omega) (d.s q r r).2
    ·obtain⟨a1,a2,a3,a4⟩:=t.pl q r (t.pw r J);have:=(lp q r (t.pw r J)).2.1.1;exact⟨a1,a2.n1,⟨a3.1,by omega,by omega⟩,a4,by have:=C.size;omega⟩
    ·exact uJ d.nf (o.block m.heap.size L (by omega)) u
    ·exact uJ GR.2 (o.block (w.heap.size+2) GR.2.1 (by omega)) u)
   have f:∀o v,((w.alloc (.cells #[iv 0,iv 0,iv 0,.slice none 0 0,.slice none 0 0,iv 0,iv 0,iv 0,.slice none 0 0,iv 0,iv 0,iv 0,iv 0] 34)).alloc (.cells #[iv x.M,iv x.K,iv x.born,sS br x.B.length kr,.slice a4 n4 k4,iv x.E,iv x.I,iv x.sub,.slice a8 n8 k8,iv x.per,iv x.V,iv x.Q,iv x.S] 34)).cell? (aA w.heap.size o)=some v->wr.cell? (aA w.heap.size o)=some v:=λo v h=>(World.cell?_of_block (a:=(aA w.heap.size o)) (WB w.heap.size (by omega) (by omega))).trans (rc o v h)
   have ai:∀o,wr.frozen? (aA w.heap.size o)=false:=λo=>(World.frozen?_of_block (a:=(aA w.heap.size o)) (WB w.heap.size (by omega) (by omega))).trans (RF o)
   have r0:=f 0 (iv 0) (by simp [go_sem]);have r1:=f 1 (iv 0) (by simp [go_sem]);have r2:=f 2 (iv 0) (by simp [go_sem]);have r3:=f 3 (.slice none 0 0) (by simp [go_sem]);have r4:=f 4 (.slice none 0 0) (by simp [go_sem]);have r5:=f 5 (iv 0) (by simp [go_sem]);have r6:=f 6 (iv 0) (by simp [go_sem]);have r7:=f 7 (iv 0) (by simp [go_sem]);have r8:=f 8 (.slice none 0 0) (by simp [go_sem]);have r9:=f 9 (iv 0) (by simp [go_sem]);have aa:=f 10 (iv 0) (by simp [go_sem]);have X:=f 11 (iv 0) (by simp [go_sem]);have V:=f 12 (iv 0) (by simp [go_sem]);obtain⟨b0,b1,b2,b3,b4,b5,b6,b7,b8,b9,af,ae,ad⟩:=d.bx;go_wp2;refine bodyPost_ret (v:=x.v (sS br x.B.length kr) (sS m.heap.size x.A.length x.A.length) (sS (w.heap.size+2) x.D.length x.D.length)) (by simp [results,results59,go_sem,r0,r1,r2,r3,r4,r5,r6,r7,r8,r9,aa,X,V]) rfl ⟨_,_,rfl,?_⟩;refine(λ(F:uX (λq=>q=w.heap.size) wr _)=>⟨uH RW _ F,F.ext C (λq r e=>by omega)⟩) ?_
   repeat (first | refine uX.setCell ?_ (by simp) _ | exact uX.refl _ _)
theorem b0b(r:R4 x):∀i,i<x.A.length->∀k,k<(x.c i).F.length->uW ((x.c i).p k).key x.A.length/\uW ((x.c i).p k).val x.A.length:=λi b k e=>by
 have a:=(r.2 i b).2 k e;by_cases d:uE x i
 ·exact a.1 d
 ·exact⟨(a.2 d).1.1,(a.2 d).2.1⟩
theorem c0p(x:Hp)(b:Nat)(w:World)(h:HAt w b x ar kr ac kc ag kg)(r1:R1 x)(d:R4 x)(f:R6 x):
  Calls prog 132 #[pP b] w λe w'=>∃r:Bool,e=.returned (.bool r)/\(r=true↔R7 x)/\Ext w w':=by
 cases a:(x.E == 1)
 ·cases c:(x.E == 2)
  ·have Y:=uU (show R7 x from λm=>by rcases m with m | m <;> simp [m] at a c);have i:(x.E != 1)=true:=by simpa using a
   have g:(x.E != 2)=true:=by simpa using c
   have j:=h.c5;go_enter func132,ntmps132;go_wp2;go_ret
   first | (exact Or.inr ⟨rfl,Y,Ext.refl _⟩) | (exact⟨true,rfl,⟨λ_=>uH Y,λ_=>rfl⟩,Ext.refl _⟩)
  ·exact c6w x b w h (b0b d) f r1 a c
 ·exact c6v x b w h (b0b d) f r1 a
theorem c6m(x:Hp)(b r1:Nat)(a:List Nat)(w:World){ac:Nat->Option Addr}(s g:Nat)(h:VNt w b x ar kr ac (some (aA s g)) kn)(W:a3p w r1 s (a.map (λi=>g+i*2)))(Y:r1<w.heap.size)(X:x.A.length<=8000)(j:∀i,i<x.A.length->(x.c i).F.length<=200):
  Calls prog 70 #[pP b,.map (some r1)] w λe w'=>∃u:Nat,Hid (e=.returned (iv (u:Int)))/\Hid (u=eY x (λi=>decide (i∈a)) x.A.length)/\Ext w w':=by
 have y:=h.n13;have HV:=uU h;have G:=uU W;have HL:=uU (λk t=>c1k (p:=λi=>decide (i∈a)) j k t);go_enter func70,ntmps70;go_wp2_with fail;go_loopw [5,13] (λn i wr=>∃(k u:Nat),k<=x.A.length/\i=iv k/\n=iv u/\Hid (u=eY x (λi=>decide (i∈a)) k)/\Ext w wr) (λ_ i _=>x.A.length-(intOf i).toNat)
 case atStart=>exact⟨0,0,Nat.zero_le _,rfl,rfl,rfl,Ext.refl w⟩
 case round=>
  obtain⟨k,u,t,rfl,rfl,r,d⟩:=hrel;have F:u<=201*k:=by have:=uH r;rw[this];exact HL k t
  by_cases l:k<x.A.length
  ·have M:=HV.ext d;have y:=M.n13;have hl:=j k l;have Q:(0:Int)<=(k:Int):=by omega
   have B:(k:Int)<(x.A.length:Int):=by omega
   have V:=uU (G.block (d.block r1 Y));go_wp2_with fail;refine(b4c r1 s (g+k*2) _ _ V).mono ?_;rintro e w1 ⟨rfl,C⟩;have q:=d.trans C;by_cases m:k∈a
   ·have E:decide (g+k*2∈a.map (λi=>g+i*2))=true:=decide_eq_true (a6c.2 m);rw[E];have z:=uU (show u+(1+(x.c k).F.length)=eY x (λi=>decide (i∈a)) (k+1) by have:=uH r;simp only [eY,decide_eq_true m];simp;omega);obtain⟨b',o,D,O,I,p0,p1,p2,p3,p4,p5,p6,S,J,P⟩:=(HV.ext q).H.cell k l;obtain⟨T,K,bc,oc,R,A,m0,L⟩:=(HV.ext q).N k l;rw[I] at A;cases R;cases A;go_wp2_with fail;refine(b1r (x.c k) s (g+k*2) _ _ D O _ L S J).mono ?_;rintro e Z ⟨rfl,rfl⟩;go_wp2;go_roundw
    case rel=>exact⟨k+1,u+(1+(x.c k).F.length),by omega,by go_num,by go_num,z,q⟩
    case measure=>simp [intOf];omega
   ·have E:decide (g+k*2∈a.map (λi=>g+i*2))=false:=decide_eq_false (λf=>m (a6c.1 f));rw[E];have z:=uU (show u=eY x (λi=>decide (i∈a)) (k+1) by have:=uH r;simp only [eY,decide_eq_false m];simp;exact this);go_wp2;go_roundw
    case rel=>exact⟨k+1,u,by omega,by go_num,rfl,z,q⟩
    case measure=>simp [intOf];omega
  ·have v:k=x.A.length:=by omega
   have U:=uU (show u=eY x (λi=>decide (i∈a)) x.A.length by have:=uH r;rw[v] at this;exact this);go_wp2;go_ret;exact⟨u,rfl,U,d⟩
theorem HA.rd(h:HA B U w y ar kr ac kc ag kg):HRd w y ar kr ac kc ag kg:=by
 rcases h with⟨rfl,rfl,rfl,rfl,rfl,rfl,rfl⟩ | ⟨br,bc,bg,pb,pa,pk,rfl,rfl,rfl,h⟩
 ·exact HRd.zero w
 ·exact⟨h.r,h.cs,h.g⟩
theorem HA.ext(h:HA B U w y ar kr ac kc ag kg)(e:Ext w w'):HA B U w' y ar kr ac kc ag kg:=by
 rcases h with h | ⟨c,j,a,i,g,d,k,f,b,h⟩
 ·exact .inl h
 ·exact .inr ⟨c,j,a,i,g,d,k,f,b,h.ext e⟩
theorem HA.only{S:Nat->Prop}(h:HA B U w y ar kr ac kc ag kg)(e:uX S w w')(l:∀q,B<=q->q<U->¬S q):HA B U w' y ar kr ac kc ag kg:=by
 rcases h with h | ⟨c,j,a,i,g,d,k,f,b,h⟩
 ·exact .inl h
 ·exact .inr ⟨c,j,a,i,g,d,k,f,b,h.only e l⟩
end Go.Proofs.YtddkhnclmeikfaaGreat
