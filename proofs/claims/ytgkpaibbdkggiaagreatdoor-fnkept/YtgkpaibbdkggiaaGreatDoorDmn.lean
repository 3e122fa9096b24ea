import Derived.Test.YtgkpaibbdkggiaaGreatDoorWk2
import Derived.Test.YtgkpaibbdkggiaaGreatDoorPg
set_option maxRecDepth 100000
set_option maxHeartbeats 40000000
namespace Go.Proofs.YtgkpaibbdkggiaaGreatDoor
open Go.RowKit Tryz
attribute [local go_sem ↓] Go.wp_at_zero Go.wp_at_succ
variable{x y:Hp}{w W w' W' w0 v:World}{g kr br b bn kn hd C k bc kc l j i qb f:Nat}{K:List Nat}{F F':List Int}{ar ac:Option Addr}{pa:Nat->Option Addr}{pk pb role cB cO:Nat->Nat}{n op a c cd:Int}{vf vk v4 v8 vg:Value}{S R:Nat->Prop}
theorem a3z[qr](B g:Nat)(x:Hp)(w:World)(h:GOk B w g x)(s:Snd x)(A:x.E≠0)(a:World)(j:a.heap.size<=B)(i:Ext a w):
  Calls prog 35 #[pP g] w λe w'=>e=.returned (.tuple #[])/\GOk B w' g (cJ x)/\Ext a w':=by
 have⟨_,_,f,_,z,v⟩:=h.box;have t:B<=w.heap.size:=by omega
 have u:x.E=1\/x.E=2\/x.E=3\/x.E=4\/x.E=5\/x.E=6:=by have:=s.r1.E;omega
 have l:x.E=1->Calls prog 86 #[pP g] w λe w'=>e=.returned (.tuple #[])/\GOk B w' g (cJ x)/\Ext a w':=λe=>by
  have:cJ x=eH x:=by unfold cJ;rw[if_pos e]
  rw[this];exact c0q B g x w h s a j i t
 have q:x.E=2->Calls prog 87 #[pP g] w λe w'=>e=.returned (.tuple #[])/\GOk B w' g (cJ x)/\Ext a w':=λe=>by
  have:cJ x=dW x:=by unfold cJ;rw[if_neg (by omega),if_pos e]
  rw[this];exact c4m B g x w h s e a j i
 have m:x.E=3->Calls prog 88 #[pP g] w λe w'=>e=.returned (.tuple #[])/\GOk B w' g (cJ x)/\Ext a w':=λe=>by
  have:cJ x=dD x:=by unfold cJ;rw[if_neg (by omega),if_neg (by omega),if_pos e]
  rw[this];exact c0x B g x w h s a j i
 have n:x.E=4->Calls prog 89 #[pP g] w λe w'=>e=.returned (.tuple #[])/\GOk B w' g (cJ x)/\Ext a w':=λe=>by
  have:cJ x=unit4 x:=by unfold cJ;rw[if_neg (by omega),if_neg (by omega),if_neg (by omega),if_pos e]
  rw[this];exact c4j B g x w h s a j i
 have o:x.E=5->Calls prog 90 #[pP g] w λe w'=>e=.returned (.tuple #[])/\GOk B w' g (cJ x)/\Ext a w':=λe=>by
  have:cJ x=dK x:=by unfold cJ;rw[if_neg (by omega),if_neg (by omega),if_neg (by omega),if_neg (by omega),if_pos e]
  rw[this];exact c4k B g x w h s e a j i
 have p:x.E=6->Calls prog 91 #[pP g] w λe w'=>e=.returned (.tuple #[])/\GOk B w' g (cJ x)/\Ext a w':=λe=>by
  have:cJ x=dX x:=by unfold cJ;rw[if_neg (by omega),if_neg (by omega),if_neg (by omega),if_neg (by omega),if_neg (by omega),if_pos e]
  rw[this];exact c0t B g x w h s a j i
 have⟨y,r⟩:=obE (cJ x);rw[<-r]at l q m n o p ⊢;obtain e|e|e|e|e|e:=u;focus
  rw[e]at f;have Q:=uU (l e)
 rotate_left
 focus
  rw[e]at f;have Q:=uU (q e)
 rotate_left
 focus
  rw[e]at f;have Q:=uU (m e)
 rotate_left
 focus
  rw[e]at f;have Q:=uU (n e)
 rotate_left
 focus
  rw[e]at f;have Q:=uU (o e)
 rotate_left
 focus
  rw[e]at f;have Q:=uU (p e)
 all_goals
  go_in;go_wp21;refine Q.mono ?_;rintro e k ⟨rfl,d,b⟩;go_wp21;go_end0;exact⟨rfl,d,b⟩
theorem a3c[qr](B g:Nat)(x:Hp)(w:World)(h:GOk B w g x)(a:World)(j:a.heap.size<=B)(i:Ext a w):
  Calls prog 34 #[pP g] w λe w'=>e=.returned (.tuple #[])/\GOk B w' g (dC x 1 0)/\Ext a w':=by
 go_in;go_wp21;refine(a0v B g x 1 0 _ h a j i).mono ?_;rintro e k ⟨rfl,c,f⟩;go_wp21;go_end0;exact⟨rfl,c,f⟩
theorem c0y[qr](B g:Nat)(x:Hp)(n:Nat)(w:World)(h:GOk B w g x)(s:Snd x)(E:n≠0)(K:n<=100000)(C:x.E≠0)(a:World)(F:a.heap.size<=B)(D:Ext a w):
  Calls prog 77 #[pP g,iv n] w λe w'=>∃k:Nat,e=.returned (iv k)/\Hid (a2f x n k)/\GOk B w' g (itU k x)/\Ext a w':=by
 have⟨_,_,y,_,I,o⟩:=h.box;have J:((n:Int) == 0)=false:=by simpa using E
 have G:(x.E == 0)=false:=by simpa using C
 go_in;go_wp21;go_loopw [5] (λd wr=>∃k:Nat,k<=n/\d=iv k/\Hid (kY x k)/\Hid (GOk B wr g (itU k x))/\Ext a wr) (λd _=>n-(intOf d).toNat)
 case atStart=>exact⟨0,kB _,rfl,kY.zero _,h,D⟩
 case round=>
  obtain⟨k,l,rfl,j,f,b⟩:=hrel;have⟨_,_,y,_,_,o⟩:=f.box;cases q:((itU k x).E == 0);focus
   have r:((itU k x).E != 0)=true:=by simpa using q
   have i:=uU (show(itU k x).E≠0 by simpa using q);by_cases m:k<n;have p:(k:Int)<(n:Int):=by omega
   go_wp21;refine(a3z B g _ _ f (s.itU k) i a F b).mono ?_;rintro e H ⟨rfl,A,v⟩;go_wp2;go_roundw
   case rel=>exact⟨k+1,by omega,by go_num,(j.succ i),A,v⟩
   simp[intOf];omega
  rotate_left
  focus
   have r:((itU k x).E != 0)=false:=by simpa using q
   by_cases m:k<n;have p:(k:Int)<(n:Int):=by omega
   go_wp2;go_ret;exact⟨k,rfl,⟨j,l,.inr (show(itU k x).E=0 by simpa using q)⟩,f,b⟩
  all_goals
   ·have p:¬(k:Int)<(n:Int):=by omega
    go_wp2;go_ret;exact⟨k,rfl,⟨j,l,.inl (show k=n by omega)⟩,f,b⟩
theorem b9a[qr](B g:Nat)(x:Hp)(n:Nat)(w:World)(h:GOk B w g x)(s:Snd x)(D:n≠0)(N:n<=100000)(t:x.E=0)(a:World)(E:a.heap.size<=B)(I:Ext a w):
  Calls prog 77 #[pP g,iv n] w λe w'=>∃k:Nat,e=.returned (iv k)/\Hid (a2f (dC x 1 0) n k)/\GOk B w' g (itU k (dC x 1 0))/\Ext a w':=by
 have⟨_,_,l,_,K,c⟩:=h.box;have S:=s.begin t;have L:((n:Int) == 0)=false:=by simpa using D
 rw[t]at l;have⟨y,u⟩:=obE (dC x 1 0);have A:=uU (a3c B g x w h a E I);rw[<-u]at S A ⊢;clear h s t D u;go_in;go_wp21;refine A.mono ?_;rintro e M ⟨rfl,f,v⟩;have z:=uU f;have⟨_,_,l,_,_,c⟩:=f.box;clear f;go_wp21;go_loopw [5] (λd wr=>∃k:Nat,k<=n/\d=iv k/\Hid (kY y k)/\Hid (GOk B wr g (itU k y))/\Ext a wr) (λd _=>n-(intOf d).toNat)
 case atStart=>exact⟨0,kB _,rfl,kY.zero _,z,v⟩
 case round=>
  clear z v l c;obtain⟨k,p,rfl,o,j,b⟩:=hrel;have⟨_,_,l,_,_,c⟩:=j.box;cases q:((itU k y).E == 0);focus
   have F:((itU k y).E != 0)=true:=by simpa using q
   have m:=uU (show(itU k y).E≠0 by simpa using q);by_cases r:k<n;have f:(k:Int)<(n:Int):=by omega
   go_wp21;refine(a3z B g _ _ j (S.itU k) m a E b).mono ?_;rintro e J ⟨rfl,C,G⟩;have H:=uU C;clear C l c;go_wp21;go_roundw
   case rel=>exact⟨k+1,by omega,by go_num,(o.succ m),H,G⟩
   simp[intOf];omega
  rotate_left
  focus
   have F:((itU k y).E != 0)=false:=by simpa using q
   by_cases r:k<n;have f:(k:Int)<(n:Int):=by omega
   go_wp21;go_ret;exact⟨k,rfl,⟨o,p,.inr (show(itU k y).E=0 by simpa using q)⟩,j,b⟩
  all_goals
   ·have f:¬(k:Int)<(n:Int):=by omega
    go_wp21;go_ret;exact⟨k,rfl,⟨o,p,.inl (show k=n by omega)⟩,j,b⟩
theorem c0z(g:Nat)(w:World):Calls prog 77 #[pP g,iv 0] w λe w'=>e=.returned (iv 0)/\w'=w:=by
 go_in;go_wp2;go_ret;exact⟨rfl,rfl⟩
theorem a9a[qr](B g:Nat)(x:Hp)(n:Nat)(w:World)(h:GOk B w g x)(s:Snd x)(f:n<=100000)(a:World)(i:a.heap.size<=B)(d:Ext a w):
  Calls prog 77 #[pP g,iv n] w λe w'=>∃k:Nat,e=.returned (iv k)/\Hid (a2f (stepH x n) n k)/\GOk B w' g (itU k (stepH x n))/\Ext a w':=by
 by_cases c:n=0;subst c;have e:stepH x 0=x:=by unfold stepH;rw[if_neg (λh=>h.2 rfl)]
 rw[e];refine(c0z g w).mono ?_;rintro e w' ⟨rfl,rfl⟩;exact⟨0,rfl,⟨kY.zero _,hT _,.inl rfl⟩,h,d⟩;by_cases b:x.E=0
 ·have e:stepH x n=dC x 1 0:=by unfold stepH;rw[if_pos ⟨b,c⟩]
  rw[e];exact b9a B g x n w h s c f b a i d
 have e:stepH x n=x:=by unfold stepH;rw[if_neg (λh=>b h.1)]
 rw[e];exact c0y B g x n w h s c f b a i d
theorem b7g[qr](B g:Nat)(x:Hp)(w:World)(h:GOk B w g x)(s:Snd x)(a:World)(z:a.heap.size<=B)(y:Ext a w):
  Calls prog 136 #[pP g] w λe w'=>∃k:Nat,e=.returned (iv k)/\Hid (b2v x k)/\GOk B w' g (itU k x)/\Ext a w':=by
 have S:=uU s;go_in;go_wp21;go_loopg [3] (14000000) (λp d wr=>∃k:Nat,d=iv k/\Hid (kY x k)/\Hid (mu (itU k x)<=p)/\Hid (GOk B wr g (itU k x))/\Ext a wr)
 case atStart=>exact⟨0,rfl,kY.zero _,S.mu_le,h,y⟩
 case round=>
  obtain⟨k,rfl,i,j,f,b⟩:=hrel;have⟨_,_,C,_,_,r⟩:=f.box;have A:=i.le S;cases q:((itU k x).E == 0)
  ·have l:((itU k x).E != 0)=true:=by simpa using q
   have c:=uU (show(itU k x).E≠0 by simpa using q);go_wp21;refine(a3z B g _ _ f (S.itU k) c a z b).mono ?_;rintro e D ⟨rfl,u,o⟩;have E:wrap64 ((k:Int)+1)=(k:Int)+1:=by unfold wrap64;omega
   go_wp21;go_roundg (mu (itU (k+1) x))
   case measure=>have:=(show mu (itU (k+1) x)<mu (itU k x) from(S.itU k).less c);have:=uH j;omega
   case rel=>exact⟨k+1,by go_num,(i.succ c),hT _,u,o⟩
  have l:((itU k x).E != 0)=false:=by simpa using q
  go_wp2;go_ret;exact⟨k,rfl,⟨(show(itU k x).E=0 by simpa using q),i⟩,f,b⟩
theorem b2w[qr](B g:Nat)(x:Hp)(w:World)(h:GOk B w g x)(s:Snd x)(a:World)(d:a.heap.size<=B)(A:Ext a w):
  Calls prog 78 #[pP g] w λe w'=>∃y z,e=.returned (.tuple #[])/\Hid (a8z x y/\a8z (dC y 1 0) z)/\GOk B w' g z/\Ext a w':=by
 go_in;go_wp21;refine(b7g B g x _ h s a d A).mono ?_;rintro e E ⟨k,rfl,c,j,u⟩;have⟨y,f⟩:=obE (itU k x);rw[<-f]at j;have b:=uU (show a8z x y from⟨k,c,f⟩);go_wp21;refine(a3c B g y _ j a d u).mono ?_;rintro e C ⟨rfl,r,n⟩;go_wp21;refine(b7g B g _ _ r ((b.snd s).1.begin (b.snd s).2) a d n).mono ?_;rintro e D ⟨i,rfl,c,v,m⟩;go_wp21;go_end0;exact⟨y,_,rfl,⟨b,(show a8z (dC y 1 0) (itU i (dC y 1 0)) from⟨i,c,rfl⟩)⟩,v,m⟩
theorem a0j(n:Int)(w:World):Calls prog 71 #[iv n] w λe w'=>e=.returned (tD 0 n)/\Ext w w':=by
 go_in;go_wp21;first
  | (go_ret;exact⟨rfl,by repeat (first|exact hO _|refine mJ ?_ _)⟩)
  | exact bodyPost_ret (v:=tD 0 n) (by simp[results,results71,go_sem]) rfl ⟨rfl,by repeat (first|exact hO _|refine mJ ?_ _)⟩
theorem a0r(n:Int)(w:World):Calls prog 67 #[iv n] w λe w'=>e=.returned (tD n 0)/\Ext w w':=by
 go_in;go_wp21;first
  | (go_ret;exact⟨rfl,by repeat (first|exact hO _|refine mJ ?_ _)⟩)
  | exact bodyPost_ret (v:=tD n 0) (by simp[results,results67,go_sem]) rfl ⟨rfl,by repeat (first|exact hO _|refine mJ ?_ _)⟩
theorem GOk.set12[qr]{B:Nat}(h:GOk B w g x)(v:Int):GOk B (w.setCell (aA g 12) (iv v)) g { x with S:=v }:=by
 obtain⟨m,e,f,d,b,c,l,k,j,i,a,h⟩:=h;exact⟨_,_,_,_,_,_,_,_,_,_,_,h.boxed (x':={ x with S:=v }) (tJ w g 12 _) (h.nf.set _ _) rfl rfl rfl (h.bx.set12 v)⟩
theorem GOk.set2[qr]{B:Nat}(h:GOk B w g x)(v:Int):GOk B (w.setCell (aA g 2) (iv v)) g { x with born:=v }:=by
 obtain⟨m,e,f,d,b,c,l,k,j,i,a,h⟩:=h;exact⟨_,_,_,_,_,_,_,_,_,_,_,h.boxed (x':={ x with born:=v }) (tJ w g 2 _) (h.nf.set _ _) rfl rfl rfl (h.bx.set2 v)⟩
theorem GOk.nums[qr]{B:Nat}(h:GOk B w g x):w.cell? (aA g 0)=some (iv x.M)/\w.cell? (aA g 1)=some (iv x.K)/\w.cell? (aA g 2)=some (iv x.born)/\w.cell? (aA g 5)=some (iv x.E)/\w.cell? (aA g 9)=some (iv x.per)/\w.cell? (aA g 10)=some (iv x.V)/\w.cell? (aA g 12)=some (iv x.S):=by
 obtain⟨m,n,y,l,s,u,p,o,z,v,c,h⟩:=h;obtain⟨f,d,j,r,C,i,A,q,t,e,b,k,a⟩:=h.bx;exact⟨f,d,j,i,e,b,a⟩
theorem b4y[qr](B g:Nat)(x:Hp)(u:Nat)(w:World)(h:GOk B w g x)(s:Snd x)(hu:u<=201)(a:World)(M:a.heap.size<=B)(L:Ext a w):
  Calls prog 123 #[pP g,iv u] w λe w'=>∃y,e=.returned (.bool (zV y u))/\Hid (tY x u y)/\Hid (GOk B w' g y)/\Ext a w':=by
 have H:=uU h;obtain⟨R,N,Z,Y,O,F,j⟩:=h.nums;have D:g<w.heap.size:=h.box.2.2.2.2.2;have k:=h.box.2.2.2.1 12;have U:a.heap.size<=g:=kA M h.box.2.2.2.2.1;have us:0<=x.K/\x.K<=4000:=by have G:=s.r3;have A:=s.r1.M;unfold R3 at G;omega
 have fo:=s.r1.S;have S:=uU s;have wu:wrap64 (x.K+(u:Int))=x.K+(u:Int):=a1e _ (by omega) (by omega);clear h s;cases q:zV x u
 ·have V:¬(x.K+(u:Int)<=x.M):=by simpa[zV]using q
  have Q:=uU q;clear q;have m:=uU (show ∀(c:World)(y:Hp),Snd y->GOk B c g y->(c.cell? (aA g 0)=some (iv y.M)/\c.cell? (aA g 1)=some (iv y.K)/\wrap64 (y.K+(u:Int))=y.K+(u:Int)/\g<c.heap.size) from λc y i b=>by
   have aa:0<=y.K/\y.K<=4000:=by have G:=i.r3;have A:=i.r1.M;unfold R3 at G;omega
   exact⟨b.nums.1,b.nums.2.1,a1e _ (by omega) (by omega),uQ b.nums.1⟩)
  have d:=uU (show ∀(n:World),GOk B n g (forceTo x)->Ext a n->Calls prog 78 #[pP g] n λe w'=>∃y,e=.returned (.tuple #[])/\Hid (tY x u y)/\Hid (Snd y)/\Hid (GOk B w' g y)/\Ext a w' from λn A x1=>(b2w B g _ n A S.forceTo a M x1).mono λe c ⟨y,z,T,f,b,l⟩=>⟨z,T,.inr ⟨Q,⟨y,f.1,f.2⟩⟩,a9y.snd S.forceTo ⟨y,f.1,f.2⟩,b,l⟩);go_in;go_wp21;go_quiet (fail);obtain⟨W,C⟩:=obE (w.drewN nq);rw[<-C];have r:Ext w W:=by rw[C];exact Ext.drewN (hO w) nq
  have K:=uU (H.ext r);have I:=uU (L.trans r);have X:=r.keep j;have ab:=((cE r).2 g 12 D).trans k;clear C R N Z Y O F j k r;by_cases J:x.S<1000000000;focus
   have t:=uU (show GOk B (W.setCell (aA g 12) (iv (x.S+1))) g (forceTo x) by
    have:=K.set12 (x.S+1);unfold forceTo;rw[if_pos J];exact this)
   have X1:=uU (I.sc g 12 U (iv (x.S+1)));have wf:wrap64 (x.S+1)=x.S+1:=by unfold wrap64;omega
   go_wp21;refine(d _ t X1).mono ?_
  rotate_left
  focus
   have t:=uU (show GOk B W g (forceTo x) by
    unfold forceTo;rw[if_neg J];exact K)
   go_wp21;refine(d _ t I).mono ?_
  all_goals
   rintro e c ⟨y,rfl,f,i,b,l⟩;obtain⟨P,d1,v,o⟩:=uH m c y i b;go_wp21;go_quiet (fail);go_wp21;go_ret;exact⟨y,rfl,f,b.ext (Ext.drewN (hO _) _),Ext.drewN l _⟩
 have V:x.K+(u:Int)<=x.M:=by simpa[zV]using q
 have E:=uU q;clear q;go_in;go_wp21;go_quiet (fail);go_wp21;go_ret;exact⟨x,by rw[uH E];rfl,.inl ⟨E,rfl⟩,H.ext (Ext.drewN (hO _) _),Ext.drewN L _⟩
theorem b4z[qr](B g:Nat)(x:Hp)(u:Nat)(w:World)(h:GOk B w g x)(s:Snd x)(hu:u<=201)(a:World)(Q:a.heap.size<=B)(o:Ext a w):
  Calls prog 126 #[pP g,iv u] w λe w'=>∃y,e=.returned (.tuple #[])/\Hid (tL x u y)/\Hid (GOk B w' g y)/\Ext a w':=by
 have f:=uU h;obtain⟨c0,c1,c2,H,U,M,D⟩:=h.nums;have L:g<w.heap.size:=h.box.2.2.2.2.2;have pr:=s.r1.per;have S:=uU s;obtain⟨p,v⟩:∃p:Nat,x.per=(p:Int):=⟨x.per.toNat,by omega⟩;have r:=uU v;rw[v]at U;have n:p<=64:=by omega
 have K:p*u<=64*201:=Nat.mul_le_mul n hu;have d:((p:Int)*(u:Int))=((p*u:Nat):Int):=by simp
 obtain⟨m,I⟩:=obE (p*u);rw[<-I]at K d;have wm:wrap64 ((p:Int)*(u:Int))=(m:Int):=by rw[d];exact a1e _ (by omega) (by omega)
 have O:=uU (show x.per.toNat*u=m by rw[v,I];simp);have t:=uU (show a3v x u=(x.per == 0 || (u == 0 || (x.E == 0 && decide (x.K<=x.V)))) from rfl);clear h s v I d;cases N:((p:Int) == 0);have A:p≠0:=by simpa using N
 cases Y:((u:Int) == 0)
 have i:u≠0:=by simpa using Y
 have M0:=uU (show m≠0 by
  have:=uH O;rw[uH r,mM]at this;rw[<-this];exact Nat.mul_ne_zero A i)
 have c:=uU (show a3v x u=(x.E == 0 && decide (x.K<=x.V)) by
  rw[uH t,uH r,show((p:Int) == 0)=false from N,show(u == 0)=false by simpa using i];rfl)
 clear t;cases q:(x.E == 0);have F:=uU (show a3v x u=false by rw[uH c,q];rfl);go_in;go_wp21;refine(a9a B g x m _ f S (by omega) a Q o).mono ?_;rintro e w2 ⟨k,rfl,l,j,J⟩;have P:=uU j;have R:=uU (show tL x u (itU k (stepH x m)) from .inr ⟨F,k,by rw[uH O];exact⟨l,rfl⟩⟩);clear j l;go_wp21;go_end0;exact⟨_,rfl,R,P,J⟩;have P0:=uU (show x.E=0 by simpa using q);have b:=uH P0;by_cases X:x.K<=x.V
 ·have T:=uU (show a3v x u=true by rw[uH c,q,decide_eq_true X];rfl);rw[b]at H;clear b;go_in;go_wp21;go_quiet (fail);go_wp21;refine bodyPost_ret (results_none rfl _ _ _) rfl ?_;exact⟨x,rfl,.inl ⟨T,rfl⟩,f.ext (Ext.drewN (hO _) _),Ext.drewN o _⟩
 have F:=uU (show a3v x u=false by rw[uH c,q,decide_eq_false X];rfl);have EX:=uU (show stepH x m=dC x 1 0 by unfold stepH;rw[if_pos ⟨b,uH M0⟩]);have z:=uU (show stepH (dC x 1 0) m=dC x 1 0 by unfold stepH;rw[if_neg (λh=>by have:=h.1;simp[dC]at this)]);have S1:=uU (S.begin b);rw[b]at H;clear b;go_in;go_wp21;go_quiet (fail);obtain⟨W,G⟩:=obE (w.drewN nq);rw[<-G];have E:Ext w W:=by rw[G];exact Ext.drewN (hO w) nq
 have HW:=uU (f.ext E);have XW:=uU (o.trans E);clear G c0 c1 c2 H U M D L E;go_wp21;refine(a3c B g x _ HW a Q XW).mono ?_;rintro e w1 ⟨rfl,C,x1⟩;have H1:=uU C;have V:=C.nums.2.2.2.2.1;rw[show(dC x 1 0).per=(p:Int) from uH r]at V;have Z:=cLt V;clear C;go_wp21;refine(a9a B g (dC x 1 0) m _ H1 S1 (by omega) a Q x1).mono ?_;rintro e w2 ⟨k,rfl,l,j,J⟩;have P:=uU j;have R:=uU (show tL x u (itU k (stepH (dC x 1 0) m)) from .inr ⟨F,k,by rw[uH O,uH EX];have:=uH l;rw[uH z]at this ⊢;exact⟨this,rfl⟩⟩);clear j l;go_wp21;go_end0;exact⟨_,rfl,R,P,J⟩;have T:=uU (show a3v x u=true by rw[uH t,show(u == 0)=true by simpa using Y];simp);go_in;go_wp21;refine bodyPost_ret (results_none rfl _ _ _) rfl ?_;exact⟨x,rfl,.inl ⟨T,rfl⟩,f,o⟩;have T:=uU (show a3v x u=true by rw[uH t,uH r,show((p:Int) == 0)=true from N];rfl);go_in;go_wp21;refine bodyPost_ret (results_none rfl _ _ _) rfl ?_;exact⟨x,rfl,.inl ⟨T,rfl⟩,f,o⟩
structure GReg[qr](B:Nat)(w:World)(g:Nat)(x:Hp)(br kr:Nat):Prop where
 c3:w.cell? ⟨g,3,none⟩=some (.slice (some ⟨br,0,none⟩) 16 kr)
 r:∀i,i<16->yD w br (i*3) (x.r i)
 f:∀j,w.frozen? ⟨br,j,none⟩=false
 lo:B<=br/\br<w.heap.size/\br≠g
 set:∀(W:World)(i:Nat)(y:Wd),Ext w W->i<16->GOk B (cX W br (i*3) y) g (regTo x i y)
theorem GOk.B[qr]{B:Nat}(h:GOk B w g x)(d:x.B.length=16):∃br kr,GReg B w g x br kr:=by
 have⟨f,kr,u,p,k,br,n,o,j,s,b,h⟩:=h;have a:0<x.B.length:=by omega
 exact⟨br,kr,by have:=h.bx.2.2.2.1;rw[h.ha a,d]at this;exact this,λi q=>by have:=h.rw.r i (by omega);rw[Hp.r_eq]at this;exact this,(h.rw.nr a).1.2,⟨(h.rw.nr a).2,(h.rw.nr a).1.1,λe=>by have t:=h.sp.r a;have v:=h.sp.g;rw[e]at t;omega⟩,λW i y e q=>by have c:=h.ext e;exact⟨f,kr,u,p,k,br,n,o,j,s,b,c.setr i (by omega) y (cD _ _ _ _) (a2g (c.rw.nr a).1 _ _) (a1m _ _ _ _ _ (c.rw.r i (by omega))) (λm l=>dL _ _ _ _ m l)⟩⟩
theorem GReg.ext[qr]{B:Nat}(h:GReg B w g x br kr)(e:Ext w w'):GReg B w' g x br kr:=
 ⟨e.keep h.c3,λi a=>(h.r i a).ext e,λj=>((cE e).2 br j h.lo.2.1).trans (h.f j),⟨h.lo.1,kF h.lo.2.1 e.size,h.lo.2.2⟩,λW i y b a=>h.set W i y (e.trans b) a⟩
abbrev doW(w:World)(op a b c n:Int):World:=(w.alloc (.cells #[iv op,iv a,iv b,iv c,iv n] 29)).alloc (.cells #[iv 0,iv 0] 33)
structure yE(w W:World)(op a b c n:Int):Prop where
 a0:W.cell? ⟨w.heap.size,0,none⟩=some (iv op)
 a1:W.cell? ⟨w.heap.size,1,none⟩=some (iv a)
 a2:W.cell? ⟨w.heap.size,2,none⟩=some (iv b)
 a3:W.cell? ⟨w.heap.size,3,none⟩=some (iv c)
 a4:W.cell? ⟨w.heap.size,4,none⟩=some (iv n)
 r0:W.cell? ⟨w.heap.size+1,0,none⟩=some (iv 0)
 r1:W.cell? ⟨w.heap.size+1,1,none⟩=some (iv 0)
 rf:∀j,W.frozen? ⟨w.heap.size+1,j,none⟩=false
theorem yE.new(w:World)(op a b c n:Int):yE w (doW w op a b c n) op a b c n:=
 (by refine⟨?_,?_,?_,?_,?_,?_,?_,λj=>by simp[go_sem]⟩<;>simp[go_sem])
theorem yE.of{b:Int}(h:yE w W op a b c n)(e:∀q,w.heap.size<=q->q<w.heap.size+2->W'.heap[q]?=W.heap[q]?):yE w W' op a b c n:=by
 have d:=λj=>cOb w.heap.size j (e w.heap.size (hT _) (by omega))
 have f:=λj=>cOb (w.heap.size+1) j (e (w.heap.size+1) (by omega) (by omega))
 exact⟨(d 0).trans h.a0,(d 1).trans h.a1,(d 2).trans h.a2,(d 3).trans h.a3,(d 4).trans h.a4,(f 0).trans h.r0,(f 1).trans h.r1,λj=>(fOb (w.heap.size+1) j (e (w.heap.size+1) (by omega) (by omega))).trans (h.rf j)⟩
theorem yE.ext{b:Int}(h:yE w W op a b c n)(e:Ext W W'):yE w W' op a b c n:=by
 have d:=uQ h.r0;exact h.of λq i f=>e.block q (by
  have d:w.heap.size+1<W.heap.size:=d;omega)
theorem a7f(w:World)(op a b c n:Int):(doW w op a b c n).heap.size=w.heap.size+2:=by simp[doW]
theorem GOk.boxes{p p1:Inhabited uL}{B:Nat}{b:Int}(o:Own p w.heap.size (doW w op a b c n).heap.size (doW w op a b c n) p1)(h:@GOk p1 B W g y):yE w W op a b c n:=
 (yE.new w op a b c n).of λq d e=>GOk.own o h q d (by rw[a7f];exact e)
abbrev putA(W:World)(r:Nat)(cd nm:Int):World:=(W.setCell ⟨r,0,none⟩ (iv cd)).setCell ⟨r,1,none⟩ (iv nm)
theorem GOk.done{p p1:Inhabited uL}{B:Nat}{b:Int}(o:Own p w.heap.size (doW w op a b c n).heap.size (doW w op a b c n) p1)(h:@GOk p1 B W g y)(e d:Int):@GOk p B (putA W (w.heap.size+1) e d) g y:=
 GOk.leave o h (uZ.setCell (uZ.setCell (uZ.refl _ W) (p:=(aA (w.heap.size+1) 0)) ⟨by show w.heap.size<=w.heap.size+1;omega,by rw[a7f];show w.heap.size+1<w.heap.size+2;omega⟩ _) (p:=(aA (w.heap.size+1) 1)) ⟨by show w.heap.size<=w.heap.size+1;omega,by rw[a7f];show w.heap.size+1<w.heap.size+2;omega⟩ _)
theorem GOk.doneD{p p1:Inhabited uL}{B:Nat}{b:Int}(o:Own p w.heap.size (doW w op a b c n).heap.size (doW w op a b c n) p1)(h:@GOk p1 B W g y)(e d:Int):@GOk p B (putA W (w.heap.size+1) e d).drew g y:=
 GOk.leave o h (uZ.drew (uZ.setCell (uZ.setCell (uZ.refl _ W) (p:=(aA (w.heap.size+1) 0)) ⟨by show w.heap.size<=w.heap.size+1;omega,by rw[a7f];show w.heap.size+1<w.heap.size+2;omega⟩ _) (p:=(aA (w.heap.size+1) 1)) ⟨by show w.heap.size<=w.heap.size+1;omega,by rw[a7f];show w.heap.size+1<w.heap.size+2;omega⟩ _))
theorem eJ{r:Nat}(h:Ext v W)(a:v.heap.size<=r)(c b:Int):Ext v (putA W r c b):=(h.sc r 0 a _).sc r 1 a _
abbrev a1a[qr](B g:Nat)(x:Hp)(a b c:Nat)(n:Int)(k:Nat)(v:World)(e:Ending)(w':World):Prop:=∃(y:Hp)(cd nm:Int),Hid (e=.returned (tD cd nm))/\Hid (DoR x a b c n y cd nm k)/\Hid (GOk B w' g y)/\Ext v w'
theorem a7g{p p1:Inhabited uL}{B:Nat}{a c:Nat}{nm:Int}(o:Own p w.heap.size (doW w op a b c n).heap.size (doW w op a b c n) p1)(h:@GOk p1 B W g y)(e:Ext v W)(l:v.heap.size<=w.heap.size+1)(d:DoR x a b c n y cd nm k):@a1a p B g x a b c n k v (.returned (tD cd nm)) (putA W (w.heap.size+1) cd nm):=
 ⟨y,cd,nm,rfl,d,GOk.done o h cd nm,eJ e l cd nm⟩
theorem wd_eq0(a b:Wd)(w:World):(Op.equalIn 10000 48 (.agg #[iv a.k,iv a.n,iv a.a]) (.agg #[iv b.k,iv b.n,iv b.a])).run prog w=.ok (wdB a b) w:=by
 rw[run_equalIn_struct w 9999 _ _ _ (by kernel_rfl) (by kernel_rfl)];simp[go_sem,wdB];repeat' split
 all_goals simp_all
theorem wd_eq(a b:Wd)(w:World):(binOp .eql 48 (.agg #[iv a.k,iv a.n,iv a.a]) (.agg #[iv b.k,iv b.n,iv b.a])).run prog w=.ok (.bool (wdB a b)) w:=by
 rw[run_eql_struct,wd_eq0];rfl
structure GCel[qr](B:Nat)(w:World)(g:Nat)(x:Hp)(i bc kc:Nat)(ap:Option Addr)(kp:Nat):Prop where
 c4:w.cell? ⟨g,4,none⟩=some (.slice (some ⟨bc,0,none⟩) x.A.length kc)
 s:S7 w bc (i*8) (x.c i)
 p7:w.cell? ⟨bc,i*8+7,none⟩=some (.slice ap (x.c i).F.length kp)
 f:∀j,w.frozen? ⟨bc,j,none⟩=false
 lo:B<=bc/\bc<w.heap.size
 set2:∀(W:World)(u:Int),Ext w W->GOk B (W.setCell ⟨bc,i*8+2,none⟩ (iv u)) g (hD x i (b5c (x.c i) u))
 set3:∀(W:World)(u:Int),Ext w W->GOk B (W.setCell ⟨bc,i*8+3,none⟩ (iv u)) g (hD x i (qE (x.c i) u))
theorem GOk.cel[qr]{B:Nat}(h:GOk B w g x)(i:Nat)(d:i<x.A.length):∃bc kc ap kp,GCel B w g x i bc kc ap kp:=by
 have⟨E,y,D,kc,A,C,bc,z,v,t,a,h⟩:=h;have c:0<x.A.length:=by omega
 refine⟨bc,kc,v i,t i,by have:=h.bx.2.2.2.2.1;rw[h.hc c]at this;exact this,h.rw.s i d,h.rw.p7 i d,(h.rw.nc c).1.2,⟨(h.rw.nc c).2,(h.rw.nc c).1.1⟩,λW u e=>?_,λW u e=>?_⟩
 ·have b:=h.ext e;have⟨o,k,n,r,f,l,m⟩:=b.rw.s i d;refine⟨E,y,D,kc,A,C,bc,z,v,t,a,b.setc d rfl (tJ W bc (i*8+2) _) ⟨?_,?_,kM _ _ _ n,?_,?_,?_,?_⟩ (λj F=>uC _ (.inr (by omega))) ((b.rw.nc c).1.set _ _)⟩;all_goals
   rw[uC _ (.inr (by omega))];assumption
 have b:=h.ext e;have⟨o,k,n,r,f,l,m⟩:=b.rw.s i d;refine⟨E,y,D,kc,A,C,bc,z,v,t,a,b.setc d rfl (tJ W bc (i*8+3) _) ⟨?_,?_,?_,kM _ _ _ r,?_,?_,?_⟩ (λj F=>uC _ (.inr (by omega))) ((b.rw.nc c).1.set _ _)⟩;all_goals
  rw[uC _ (.inr (by omega))];assumption
abbrev b3k(w:World):World:=w.alloc (.cells #[iv 0,iv 0] 33)
structure ABox(w W:World):Prop where
 r0:W.cell? ⟨w.heap.size,0,none⟩=some (iv 0)
 r1:W.cell? ⟨w.heap.size,1,none⟩=some (iv 0)
 rf:∀j,W.frozen? ⟨w.heap.size,j,none⟩=false
theorem ABox.new(w:World):ABox w (b3k w):=by refine⟨?_,?_,λj=>by simp[go_sem]⟩<;>simp[go_sem]
theorem GOk.abox{p p1:Inhabited uL}{B:Nat}(o:Own p w.heap.size (b3k w).heap.size (b3k w) p1)(h:@GOk p1 B W g y):ABox w W:=by
 have e:=GOk.own o h w.heap.size (hT _) (by simp[b3k]);have n:=ABox.new w;exact⟨(cOb w.heap.size 0 e).trans n.r0,(cOb w.heap.size 1 e).trans n.r1,λj=>(fOb w.heap.size j e).trans (n.rf j)⟩
theorem GOk.done1{p p1:Inhabited uL}{B:Nat}(o:Own p w.heap.size (b3k w).heap.size (b3k w) p1)(h:@GOk p1 B W g y)(b a:Int):@GOk p B (putA W w.heap.size b a) g y:=
 GOk.leave o h (uZ.setCell (uZ.setCell (uZ.refl _ W) (p:=(aA w.heap.size 0)) ⟨hT _,by simp[b3k]⟩ _) (p:=(aA w.heap.size 1)) ⟨hT _,by simp[b3k]⟩ _)
theorem c8e[p:qr](B g:Nat)(x:Hp)(a:Nat)(w:World)(h:GOk B w g x)(s:Snd x)(H:a<16)(v:World)(hv:v.heap.size<=B)(hx:Ext v w):
  Calls prog 73 #[pP g,iv a] w λe w'=>∃(y:Hp)(nm:Int),e=.returned (tD 0 nm)/\Hid (b5d x a y nm)/\Hid (GOk B w' g y)/\Ext v w':=by
 have⟨p1,o1,L⟩:=GOk.enter h (w0:=b3k w) (eAl w _);have Y:=uU L;have C:=uU s.r1.B;have QN:=uU (show Calls prog 133 #[pP g] (b3k w) λe w'=>∃r:Int,e=.returned (iv r)/\Hid (qV x x.A.length r)/\Ext (b3k w) w' from by
  obtain⟨ar,Z,ac,kc,vg,j,F,pb,pa,pk,aa,h⟩:=L;obtain⟨ag,kg,M⟩:=h.hat s;refine(c4s x g _ M s.ok.n8).mono ?_;rintro e w' h2;exact h2)
 have V0:v.heap.size<=w.heap.size:=hx.size;have i0:=i0N a;have i1:(a:Int)<16:=by omega
 clear h s L;go_in;go_wp21;refine QN.mono ?_;rintro e k ⟨r,rfl,u,P⟩;have X1:=(show Ext v (b3k w) from hx.alloc _).trans P;have X:=uU (Y.ext P);clear P Y QN;by_cases h0:r<0
 ·have D:=uU (show qV x x.A.length (-1) by
   obtain⟨e,h⟩|⟨i,e,_⟩:=u;exact .inl ⟨rfl,h⟩;omega)
  clear u;have⟨j,Z,d⟩:=X.B C;have R1:=uU d;have A:=d.c3;have⟨E,I,N⟩:=d.r a H;have f:=d.f;have Q:=cLt A;have J:=cLt E;have S:=d.lo.1;have l:GOk B (cX k j (a*3) Wd0) g (regTo x a Wd0)/\Ext v (cX k j (a*3) Wd0):=⟨d.set k a Wd0 (hO _) H,(cD k j (a*3) Wd0).ext X1 (λq hq e=>by omega)⟩;have⟨W2,b⟩:∃W,W=cX k j (a*3) Wd0:=⟨_,rfl⟩;rw[<-b]at l;unfold cX Wd0 at b;clear d;go_wp21;rw[<-b];refine(a0j 0 _).mono ?_;rintro e R ⟨rfl,n⟩;have z:=l.1.ext n;have O:=l.2.trans n;have⟨u5,u6,u7⟩:=GOk.abox o1 z;have V:=cLt u5;clear n l b A E I N f;go_wp21;refine bodyPost_ret (v:=tD 0 0) (by simp[results,results73,go_sem,u5,u6]) rfl ?_;exact⟨_,0,rfl,.inl ⟨D,rfl,rfl⟩,GOk.done1 o1 z 0 0,eJ O V0 0 0⟩
 have⟨i,hi,K,D⟩:∃i:Nat,r=(i:Int)/\i<x.A.length/\Hid (qV x x.A.length (i:Int)):=by
  obtain e|⟨i,e,h⟩:=u.form;omega;exact⟨i,e,h,by have:=uH u;rw[e]at this;exact this⟩
 subst hi;clear u;have⟨F,kc,ap,kp,t⟩:=X.cel i K;have c4:=t.c4;have⟨q0,q1,q2,q3,q4,q5,q6⟩:=t.s;have fc:=t.f;have U:=cLt c4;have T:=cLt q3;have k0:=i0N i;have k1:(i:Int)<(x.A.length:Int):=by omega
 have G2:=uU (t.set3 k 3 (hO _));have X2:=uU (X1.setCell (p:=(aA F (i*8+3))) (kA hv t.lo.1) (iv 3));obtain⟨o,m⟩:∃W,W=k.setCell (aA F (i*8+3)) (iv 3):=⟨_,rfl⟩;rw[<-m]at G2 X2;obtain⟨j,Z,d⟩:=G2.B (show(hD x i (qE (x.c i) 3)).B.length=16 from uH C);have A:=d.c3;have⟨E,I,N⟩:=d.r a H;have f:=d.f;have Q:=cLt A;have J:=cLt E;have S:=d.lo.1;have l:GOk B (cX o j (a*3) ⟨2,0,i⟩) g (regTo (hD x i (qE (x.c i) 3)) a ⟨2,0,i⟩)/\Ext v (cX o j (a*3) ⟨2,0,i⟩):=⟨d.set o a ⟨2,0,i⟩ (hO _) H,(cD o j (a*3) ⟨2,0,i⟩).ext X2 (λq hq e=>by omega)⟩;have⟨W2,b⟩:∃W,W=cX o j (a*3) ⟨2,0,i⟩:=⟨_,rfl⟩;rw[<-b]at l;unfold cX at b;clear d t;go_upto_region 6 with(fail);rw[<-m];clear m c4 q0 q1 q2 q3 q4 q5 q6 fc U T;go_wp21;rw[<-b];refine(a0j 1 _).mono ?_;rintro e R ⟨rfl,n⟩;have z:=l.1.ext n;have O:=uU (l.2.trans n);have⟨u5,u6,u7⟩:=GOk.abox o1 z;have V:=cLt u5;clear n l b A E I N f;go_wp21;refine bodyPost_ret (v:=tD 0 1) (by simp[results,results73,go_sem,u5,u6]) rfl ?_;exact⟨_,1,rfl,.inr ⟨i,D,rfl,rfl⟩,GOk.done1 o1 z 0 1,eJ O V0 0 1⟩
theorem b9d[qr]{B:Nat}{w:World}{g:Nat}{x:Hp}{ar:Option Addr}{kr:Nat}{ac:Option Addr}{kc:Nat}{vg:Value}{br bc:Nat}(h:GK B w g x ar kr ac kc vg br bc)(s:Snd x)(a:World)(ha:a.heap.size<=B)(hx:Ext a w):
  Calls prog 72 #[pP g] w λe w'=>∃H:Nat->Bool,e=.returned (.tuple #[iv (qJ x H x.A.length),iv (kE x H x.A.length)])/\Hid (∀i,H i=true↔qX x i)/\GOk B w' g (a1u x H)/\Ext a w':=by
 have G0:=uU h;have S:=uU s;obtain⟨pb,pa,pk,ba,h⟩:=h;obtain⟨ag,kg,ah⟩:=h.hat s;have QH:=uU (b2y x g w ah s.r2 s.r4 s.ok.n8);have n8:=s.ok.n8;have bd:g<w.heap.size:=h.nf.1;have r0:0<x.B.length:=by rw[s.r1.B];omega
 have ai:=uU (show 0<=x.K/\x.K<=4000 by have X:=s.r3.1;have h2:=s.r3.2;have h3:=s.r1.M;omega);have BC:=uU (show 0<x.A.length->bc<w.heap.size from λM=>(h.rw.nc M).1.1);clear h s ah;go_enter func72,ntmps72;go_wp2_with (fail);refine(uH QH).mono ?_;rintro e w1 ⟨v,L,rfl,sn,hL,q1⟩;obtain⟨H,hH⟩:=nM ((λi:Nat=>decide ((i:Int)∈L)):Nat->Bool);have HI:=uU (show ∀i,H i=true↔qX x i from λi=>by rw[hH];simp only[decide_eq_true_eq];exact uH hL i);have SN:=uU (show ∀j,j<x.A.length->w1.cell? (aA w.heap.size j)=some (.bool (H j)) from λj O=>by rw[hH];exact sn.s j O);have au:w.heap.size<w1.heap.size:=sn.hb.2;have G1:=uU ((uH G0).ext q1);have X1:=uU (hx.trans q1);have r:w1.cell? (aA g 4)=some (.slice ac x.A.length kc):=by obtain⟨_,_,_,_,X⟩:=uH G1;exact X.bx.2.2.2.2.1
 have av:g<w1.heap.size:=uQ r;clear hH sn hL QH G0;go_wp2_with (fail);go_loopw [5,19] (λgn si wr=>∃i:Nat,i<=x.A.length/\si=iv i/\gn=iv (qJ x H i)/\Hid (GK B wr g (cY x H i) ar kr ac kc vg br bc)/\Hid (∀j,j<x.A.length->wr.cell? (aA w.heap.size j)=some (.bool (H j)))/\Hid (Ext a wr)) (λ_ si _=>x.A.length-(intOf si).toNat)
 case atStart=>exact⟨0,kB _,rfl,rfl,uH G1,uH SN,uH X1⟩
 case round=>
  clear G1 SN X1 r av au;obtain⟨i,hi,rfl,rfl,l,o,D⟩:=hrel;by_cases b:i<x.A.length
  ·have c0:=uH o i b;have k0:(0:Int)<=(i:Int):=by omega
   have k1:(i:Int)<(x.A.length:Int):=by omega
   cases F:H i
   ·rw[F]at c0;have E:=uU (show cY x H (i+1)=cY x H i by show(if H i=true then _ else _)=_;rw[if_neg (by simp[F])]);have E2:=uU (show qJ x H (i+1)=qJ x H i by show(if H i=true then _ else _)=_;rw[if_neg (by simp[F])]);go_wp2_with (fail);go_roundw
    case rel=>exact⟨i+1,by omega,by go_num,by rw[uH E2],by rw[uH E];exact uH l,uH o,uH D⟩
    case measure=>simp[intOf];omega
   rw[F]at c0;have HD:=uU ((uH HI i).1 F);obtain⟨bh,bf,bg,ay,g1⟩:=uH l;have d:=uU (a2c x H i);have CI:=uU (show(cY x H i).c i=x.c i by rw[b0f x H i hi i,if_neg (by omega)]);have M:0<(cY x H i).A.length:=by rw[uH d];omega
   have r:=g1.bx.2.2.2.2.1;rw[g1.hc M,uH d]at r;have p7:=g1.rw.p7 i (by rw[uH d];exact b);rw[uH CI]at p7;have K:g<wr.heap.size:=uQ r;have af:bc<wr.heap.size:=uQ p7;have bb:=(uH S).ok.p200 i b;have aj:=uU (inH_top x H (cY x H i) i (by rw[uH d];exact b) (uH CI));have GT:=uU (show GK B wr g (inH x H (cY x H i) i (x.c i).F.length) ar kr ac kc vg br bc by rw[uH aj];exact uH l);have ap:=uU (show qC x H (x.c i) ((x.c i).F.drop (x.c i).F.length)=0 by rw[List.drop_length];rfl);clear g1;go_wp2_with (fail);go_loopw [5,7] (λgn sk wr=>∃k:Nat,k<=(x.c i).F.length/\sk=iv ((k:Int)-1)/\gn=iv ((qJ x H i:Int)+(qC x H (x.c i) ((x.c i).F.drop k):Int))/\Hid (GK B wr g (inH x H (cY x H i) i k) ar kr ac kc vg br bc)/\Hid (∀j,j<x.A.length->wr.cell? (aA w.heap.size j)=some (.bool (H j)))/\Hid (Ext a wr)) (λ_ sk _=>(intOf sk+1).toNat)
   case atStart=>exact⟨(x.c i).F.length,hT _,rfl,by rw[uH ap];simp,uH GT,uH o,uH D⟩
   case round=>
    clear GT o D l c0 r p7 K af aj ap;obtain⟨k,hk,rfl,rfl,l,o,D⟩:=hrel;cases k with
    | zero=>
     have E:=uU (c8d x H i F);have E2:=uU (show qJ x H (i+1)=qJ x H i+qC x H (x.c i) ((x.c i).F.drop 0) by show(if H i=true then _ else _)=_;rw[if_pos F];rfl);go_wp2_with (fail);go_roundw
     case rel=>exact⟨i+1,by omega,by go_num,by rw[uH E2];simp,by rw[uH E];exact uH l,uH o,uH D⟩
     case measure=>simp[intOf];omega
    | succ k=>
     have ek:(((k+1:Nat):Int)-1)=(k:Int):=by omega
     rw[ek];have A:k<(x.c i).F.length:=by omega
     obtain⟨z,I⟩:=nM (inH x H (cY x H i) i (k+1));have HZ:=uU I;rw[<-I]at l;have ZL:=uU (show z.A.length=x.A.length by rw[I,inH_len,uH d]);have ZC:=uU (show z.c i={ x.c i with F:=(x.c i).F.take (k+1)++a5p x H (x.c i) ((x.c i).F.drop (k+1)) } by rw[I];exact inH_c x H _ i (k+1) (by rw[uH d];exact b));have am:=uU (show ∀q,(z.c q).st=(x.c q).st/\(z.c q).to=(x.c q).to from λq=>by rw[I];exact inH_st x H _ i (k+1) (by rw[uH d];exact b) (d1n x H i hi) q);obtain⟨m,U⟩:=nM ((z.c i).F.length);have ao:k<m:=by rw[U,uH ZC];simp;omega
     have ab:m<=200:=by have X:=a4w x H (x.c i) ((x.c i).F.drop (k+1));rw[U,uH ZC];simp at X ⊢;omega
     obtain⟨V,aq,al,J,f⟩:=uH l;have G:i<z.A.length:=by rw[uH ZL];exact b
     have M:0<z.A.length:=by omega
     have r:=f.bx.2.2.2.2.1;rw[f.hc M,uH ZL]at r;have p7:=f.rw.p7 i G;rw[(f.rw.pl i G (f.rw.pw G (by rw[<-U];omega))).1,<-U]at p7;have s2:=(f.rw.s i G).2.2.1;have wk:(z.c i).T=(x.c i).T:=by rw[uH ZC]
     rw[wk]at s2;obtain⟨y,hy⟩:=nM ((x.c i).F[k]);have PY:=uU (show qY wr (V i) (k*6) y by
      have X:=f.rw.p i G k (by rw[<-U];exact ao);have h2:(z.c i).p k=y:=by
       rw[hy,uH ZC];simp only[Cl.p];rw[ni,ms (by simp;omega),List.getElem?_take,if_pos (by omega),ma A];rfl
      rw[h2]at X;exact X)
     obtain⟨e0,e1,e2,e3,e4,e5⟩:=uH PY;have K:g<wr.heap.size:=uQ r;have af:bc<wr.heap.size:=uQ p7;have be:V i<wr.heap.size:=uQ e0;have t0:(0:Int)<=(k:Int):=by omega
     have t1:(k:Int)<(m:Int):=by omega
     have UO:=uU (show(x.c i).st=1/\0<=(x.c i).T/\(x.c i).T<=3 by
      have g:=(uH HD).good (uH S).r2 (uH S).r4;have:=(uH S).r2.1 i b;unfold cQ a2m at this;have:=g.2.1;omega)
     have ad:=uU (show ∀W,Ext wr W->∀j,j<z.A.length->W.cell? (aA w.heap.size j)=some (.bool (H j)) from λW P j O=>P.keep (uH o j (by rw[uH ZL]at O;exact O)));have FK:=uU (show uJ y.key x.A.length/\uJ y.val x.A.length by
      have:=c8c (uH S) (uH HD) k A;rw[<-Cl.p_eq _ _ A,<-hy]at this;exact this)
     have C:=uU (show ∀u,uJ u x.A.length->∀W,Ext wr W->Calls prog 131 #[pP g,sS w.heap.size x.A.length x.A.length,u.v] W λe w'=>e=.returned (.bool (tX x H u))/\Ext W w' from λu hu W P=>by
      have:=c4q (f.ext P) H w.heap.size (uH ad W P) u (by rw[uH ZL];exact hu) (by rw[c1k (uH am),uH ZL];exact res_in (uH S).r2 hu);rw[uH ZL,c8b (uH am)]at this;exact this)
     have SC:=uU (show uV x=(i:Int)->0<=(cY x H i).sub/\(cY x H i).sub<=(x.c i).F.length from λe=>by rw[b1s x H i e i (hT _)];exact b0h (uH S) b (uH UO).1 e);have an:=uU (λq:goB x H (x.c i) y=true=>uU (show qC x H (x.c i) ((x.c i).F.drop k)=qC x H (x.c i) ((x.c i).F.drop (k+1))+1 by rw[a4y _ k A,a2r,<-hy,if_pos q]));have Z:=uU (λq:goB x H (x.c i) y=false=>kG (uU (show qC x H (x.c i) ((x.c i).F.drop k)=qC x H (x.c i) ((x.c i).F.drop (k+1)) by rw[a4y _ k A,a2r,<-hy,if_neg (by simp[q])])) (uU (show inH x H (cY x H i) i k=z by rw[uH HZ];exact d1k x H _ i k A (by rw[<-hy];exact q) (λe=>(uH SC e).2))));have ae:=uU (inH_num x H (λq hq=>(uH S).ok.p200 q hq) i (k+1) b n8 (uH ai) (uH S).r1.sub);rw[<-uH HZ]at ae;have az:=uU (show w.heap.size<wr.heap.size from uQ (uH o i b));have aw:=uU (λq:goB x H (x.c i) y=true=>show ∀W,Ext wr W->Calls prog 132 #[pP g,iv i,iv k] W λe w'=>e=.returned (.tuple #[])/\GK B w' g (inH x H (cY x H i) i k) ar kr ac kc vg br bc/\(∀j,j<x.A.length->w'.cell? (aA w.heap.size j)=some (.bool (H j)))/\Ext a w' from λW P=>by
      have zr:z.B.length=x.B.length:=by rw[uH HZ];show(cY x H i).B.length=_;rw[(a5r x H i).2.2.2]
      refine(b7j ((uH l).ext P) i k G (by rw[<-U];exact ao) (by rw[zr];exact r0) (by rw[<-U];exact ab) (uH ae).1 (uH ae).2 (by rw[uH ZL];exact n8) a ha ((uH D).trans P)).mono ?_;rintro e w4 ⟨rfl,g4,f4,x4⟩;refine⟨rfl,?_,λj O=>?_,x4⟩;rw[uH HZ]at g4;rw[<-inH_cut x H (cY x H i) i k (by rw[uH d];exact b) A (by rw[<-hy];exact q) (uH SC) (c4r x H i)];exact g4;refine(cOb w.heap.size j (f4.2 w.heap.size (kF (uH az) P.size) (by omega) (by have:=uH BC (by omega);omega))).trans (P.keep (uH o j O)))
     have Y:=uU (show goB x H (x.c i) y=((wkB (x.c i) && tX x H y.key) || (wvB (x.c i) && tX x H y.val)) from rfl);have WG:=uU (show wrap64 ((qJ x H i:Int)+(qC x H (x.c i) ((x.c i).F.drop (k+1)):Int)+1)=(qJ x H i:Int)+(qC x H (x.c i) ((x.c i).F.drop (k+1)):Int)+1 from by
      have X:=a4z x H (λq hq=>(uH S).ok.p200 q hq) i hi;have h2:=a5q x H (x.c i) ((x.c i).F.drop (k+1));have h3:((x.c i).F.drop (k+1)).length<=200:=by simp;omega
      exact a4x _ (by omega) (by omega))
     have HM:=uU U;clear f hy I U wk ek;have hw:(x.c i).T=0\/(x.c i).T=1\/(x.c i).T=2\/(x.c i).T=3:=by have:=(uH UO).2;omega
     have XA:=uU (eAl wr (oPr y));obtain e|e|e|e:=hw;focus
      rw[e]at s2;have t:goB x H (x.c i) y=false:=by rw[uH Y];simp[wkB,wvB,e]
      clear e Y;have R:=uH XA
     rotate_left
     focus
      rw[e]at s2;have T:=uU (show goB x H (x.c i) y=tX x H y.key by rw[uH Y];simp[wkB,wvB,e]);clear e Y;go_wp2_with (fail);refine(uH C y.key (uH FK).1 _ (uH XA)).mono ?_
     rotate_left
     focus
      rw[e]at s2;have T:=uU (show goB x H (x.c i) y=tX x H y.val by rw[uH Y];simp[wkB,wvB,e]);clear e Y;go_wp2_with (fail);refine(uH C y.val (uH FK).2 _ (uH XA)).mono ?_
     rotate_left
     focus
      rw[e]at s2;have T:=uU (show goB x H (x.c i) y=(tX x H y.key || tX x H y.val) by rw[uH Y];simp[wkB,wvB,e]);clear e Y;go_wp2_with (fail);refine(uH C y.key (uH FK).1 _ (uH XA)).mono ?_;rintro e w2 ⟨rfl,q2⟩;have R:=(uH XA).trans q2;cases t0:tX x H y.key;focus
       rw[t0]at T;have b3:w2.cell? (aA wr.heap.size 3)=some (iv y.val.k):=q2.keep (by simp[go_sem]);have b4:w2.cell? (aA wr.heap.size 4)=some (iv y.val.n):=q2.keep (by simp[go_sem]);have b5:w2.cell? (aA wr.heap.size 5)=some (iv y.val.a):=q2.keep (by simp[go_sem]);go_wp2_with (fail);refine(uH C y.val (uH FK).2 _ R).mono ?_;rintro e w3 ⟨rfl,q3⟩;have R:=R.trans q3;cases t1:tX x H y.val;all_goals have t:goB x H (x.c i) y=_:=(uH T).trans t1
      rotate_left 2;have t:goB x H (x.c i) y=true:=by rw[uH T,t0];rfl
     rotate_left 3;rotate_left
     iterate 2
      focus
       rintro e w2 ⟨rfl,q2⟩;have R:=(uH XA).trans q2;have t:=uH T;revert t;generalize tX x H _=t1;intro t;cases t1
      rotate_left 2
     all_goals go_wp2_with (fail)
     all_goals first|(refine(uH aw t _ R).mono ?_;rintro e w4 ⟨rfl,g4,s4,x4⟩;have G4:=uU g4;have S4:=uU s4;have X4:=uU x4;have EG:=uU (uH (uH an t));clear g4 s4 x4;go_wp2_with (fail);go_roundw;exact⟨k,by omega,by go_num,by rw[uH EG,uH WG];refine congrArg (Value.int IntKind.i64) ?_;omega,uH G4,uH S4,uH X4⟩;simp[intOf])|(go_roundw;exact⟨k,by omega,by go_num,by rw[uH (uH Z t).1],by rw[uH (uH Z t).2];exact(uH l).ext R,λj O=>R.keep (uH o j O),(uH D).trans R⟩;simp[intOf])
  have ie:i=x.A.length:=by omega
  subst ie;have d:=uU (a2c x H x.A.length);have r:wr.cell? (aA g 4)=some (.slice ac x.A.length kc):=by obtain⟨_,_,_,_,g1⟩:=uH l;have:=g1.bx.2.2.2.2.1;rw[uH d]at this;exact this
  have K:g<wr.heap.size:=uQ r;obtain⟨z,I⟩:=nM (cY x H x.A.length);have ZE:=uU (show a1u x H=zY x z H x.A.length by rw[I];rfl);have aa:=uU (show z.A.length=x.A.length by rw[I];exact uH d);have ZC:=uU (show ∀q,(z.c q).U=(x.c q).U/\(H q=false->z.c q=x.c q) from λq=>by
   rw[I,b0f x H _ (hT _) q];split;rename_i h;exact⟨rfl,λe=>by rw[e]at h;exact absurd h.2 (by simp)⟩;exact⟨rfl,λ_=>rfl⟩)
  rw[<-I]at l;clear I d;go_wp2_with (fail);go_loopw [10,94] (λdn si wr=>∃j:Nat,j<=x.A.length/\si=iv j/\dn=iv (kE x H j)/\Hid (GK B wr g (zY x z H j) ar kr ac kc vg br bc)/\Hid (∀j,j<x.A.length->wr.cell? (aA w.heap.size j)=some (.bool (H j)))/\Hid (Ext a wr)) (λ_ si _=>x.A.length-(intOf si).toNat)
  case atStart=>exact⟨0,kB _,rfl,rfl,uH l,uH o,uH D⟩
  case round=>
   clear l o D r K;obtain⟨j,O,rfl,rfl,l,o,D⟩:=hrel;by_cases b:j<x.A.length
   ·obtain⟨V,aq,al,J,f⟩:=uH l;have DL:=uU (show(zY x z H j).A.length=x.A.length by rw[a3o,uH aa]);have ak:j<(zY x z H j).A.length:=by rw[uH DL];exact b
    have M:0<(zY x z H j).A.length:=by omega
    have DC:=uU (c6o x z H j (by rw[uH aa];exact O) j (hT _));have r:=f.bx.2.2.2.2.1;rw[f.hc M,uH DL]at r;have s7:=f.rw.s j ak;have p3:=s7.2.2.2.1;rw[uH DC,(uH ZC j).1]at p3;have c0:=uH o j b;have fc:=(f.rw.nc M).1.2 (j*8+3);have K:g<wr.heap.size:=uQ r;have af:bc<wr.heap.size:=uQ p3;have k0:(0:Int)<=(j:Int):=by omega
    have k1:(j:Int)<(x.A.length:Int):=by omega
    have wd:=uU (a4x ((kE x H j:Int)+1) (by omega) (by have:=b9c x H j;omega));have SB:=uU (show w.heap.size≠bc by have:=uH BC (by omega);omega);have NO:=uU (λq:kW x H j=false=>kG (show kE x H (j+1)=kE x H j by show(if kW x H j=true then _ else _)=_;rw[if_neg (by simp[q])]) (show zY x z H (j+1)=zY x z H j by show(if kW x H j=true then _ else _)=_;rw[if_neg (by simp[q])]));cases q1:((x.c j).U == 1)
    ·have N:=uU (uH NO (by simp[kW,q1]));clear f s7;go_wp2_with (fail);go_roundw
     case rel=>exact⟨j+1,by omega,by go_num,by rw[(uH N).1],by rw[(uH N).2];exact uH l,uH o,uH D⟩
     case measure=>simp[intOf];omega
    cases F:H j
    ·rw[F]at c0;have Q:=uU (show kW x H j=true by simp[kW,q1,F]);have EN:=uU (show kE x H (j+1)=kE x H j+1 by show(if kW x H j=true then _ else _)=_;rw[if_pos (uH Q)]);have ET:=uU (show zY x z H (j+1)={ zY x z H j with A:=(zY x z H j).A.set j (b5b (x.c j)) } by show(if kW x H j=true then _ else _)=_;rw[if_pos (uH Q)]);have EC:=uU (show(zY x z H j).c j=x.c j by rw[uH DC];exact(uH ZC j).2 F);have GN:=uU (show GK B (wr.setCell (aA bc (j*8+3)) (iv 2)) g (zY x z H (j+1)) ar kr ac kc vg br bc by
      rw[uH ET];refine⟨V,aq,al,J,f.setc ak (by rw[uH EC];rfl) (tJ wr bc (j*8+3) _) ?_ (λk hk=>uC _ (.inr (by omega))) ((f.rw.nc M).1.set _ _)⟩;rw[uH EC]at s7;obtain⟨a0,a1,a2,a3,a4,a5,a6⟩:=s7;refine⟨?_,?_,?_,kM _ _ _ a3,?_,?_,?_⟩;rw[uC _ (.inr (by omega))];exact a0;rw[uC _ (.inr (by omega))];exact a1;rw[uC _ (.inr (by omega))];exact a2;rw[uC _ (.inr (by omega))];exact a4;rw[uC _ (.inr (by omega))];exact a5;rw[uC _ (.inr (by omega))];exact a6)
     have XN:=uU (show Ext a (wr.setCell (aA bc (j*8+3)) (iv 2)) from(uH D).sc bc (j*8+3) (kA ha (f.rw.nc M).2) _);have ax:=uU (show ∀q,q<x.A.length->(wr.setCell (aA bc (j*8+3)) (iv 2)).cell? (aA w.heap.size q)=some (.bool (H q)) from λq hq=>by rw[uC _ (.inl (λe=>uH SB e.symm))];exact uH o q hq);clear f s7;go_wp2_with (fail);go_roundw
     case rel=>exact⟨j+1,by omega,by go_num,by rw[uH EN,uH wd];refine congrArg (Value.int IntKind.i64) ?_;omega,uH GN,uH ax,uH XN⟩
     case measure=>simp[intOf];omega
    rw[F]at c0;have N:=uU (uH NO (by simp[kW,F]));clear f s7;go_wp2_with (fail);go_roundw
    case rel=>exact⟨j+1,by omega,by go_num,by rw[(uH N).1],by rw[(uH N).2];exact uH l,uH o,uH D⟩
    case measure=>simp[intOf];omega
   have je:j=x.A.length:=by omega
   subst je;go_wp2_with (fail);go_ret2;exact⟨H,rfl,uH HI,by rw[uH ZE];exact(uH l).ok,uH D⟩
theorem b5h(x:Hp)(i:Nat)(d:i<x.A.length)(n:Nat)(e:(x.c i).F.length<=n)(f:uV x=(i:Int)->x.sub<=(x.c i).F.length):qH x i n=x:=by
 have a:zN (x.c i) n=x.c i:=by unfold zN;rw[nx e]
 have b:x.A.set i (x.c i)=x.A:=Hp.c_eq x i d▸List.set_getElem_self _;unfold qH;rw[a,b,if_neg (λh=>by have:=f h.1;omega),show(x.c i).F.length-n=0 by omega];simp
theorem c1m(x:Hp)(i n:Nat)(a:i<x.A.length)(q:Nat):(qH x i n).c q=if q=i then zN (x.c i) n else x.c q:=Hp.c_set x i (zN (x.c i) n) a q
theorem c1n(x:Hp)(i n:Nat):uV (qH x i n)=uV x:=by unfold uV qH;simp
theorem c4t(x:Hp)(i m:Nat)(e:i<x.A.length)(f:m<(x.c i).F.length):b0g (qH x i (m+1)) i m=qH x i m:=by
 have a:=c1m x i (m+1) e i;rw[if_pos rfl]at a;have b:(zN (x.c i) (m+1)).F.eraseIdx m=(x.c i).F.take m:=by
  unfold zN;show((x.c i).F.take (m+1)).eraseIdx m=_;rw[kx f,qj (by simp;omega)];have:m-((x.c i).F.take m).length=0:=by simp;omega
  rw[this];simp
 have d:({ (qH x i (m+1)).c i with F:=((qH x i (m+1)).c i).F.eraseIdx m }:Cl)=zN (x.c i) m:=by
  rw[a,b];rfl
 unfold b0g;rw[d,c1n];unfold qH;simp only[List.set_set];by_cases g:uV x=(i:Int);grind[Add.sub,Hp.c,b0g,qH];grind[Hp.c,b0g,qH]
theorem c8f[qr](B g:Nat)(x:Hp)(i n:Nat)(w:World)(h:GOk B w g x)(s:Snd x)(t:i<x.A.length)(D:(x.c i).st=1)(a:World)(ha:a.heap.size<=B)(hx:Ext a w):
  Calls prog 130 #[pP g,iv i,iv n] w λe w'=>e=.returned (.tuple #[])/\Hid (GOk B w' g (qH x i n))/\Ext a w':=by
 have⟨F,N,Q,L,H,P,J,K,G,O,b,h⟩:=h;have M:=s.ok.p200 i t;have k:uV x=(i:Int)->x.sub<=(x.c i).F.length:=λe=>(b0h s t D e).2;have T:0<x.B.length:=by rw[s.r1.B];omega
 have j:=b5h x i t (x.c i).F.length (hT _) k;have C:=uU t;have i0:=i0N i;have i1:(i:Int)<(x.A.length:Int):=by omega
 go_in;go_wp21;go_loopg [] ((x.c i).F.length) (λU wr=>∃m:Nat,m=U/\m<=(x.c i).F.length/\Hid ((x.c i).F.length<=n->m=(x.c i).F.length)/\Hid (n<=(x.c i).F.length->n<=m)/\Hid (GK B wr g (qH x i m) F N Q L H P J)/\Ext a wr)
 case atStart=>exact⟨_,rfl,hT _,λ_=>rfl,id,by rw[uH j];exact (show GK B w g x F N Q L H P J from⟨K,G,O,b,h⟩),hx⟩
 case round=>
  obtain⟨m,rfl,hm,Y,I,q,f⟩:=hrel;have⟨z,d⟩:=obE (qH x i m);have R:=uU d;rw[<-d]at q;have r:=uU (show z.A.length=x.A.length by rw[d];simp[qH]);have u:=uU (show(z.c i).F.length=m by rw[(show z.c i=zN (x.c i) m by rw[d,c1m x i m (uH C) i,if_pos rfl])];simp[zN];omega);have p:=uU (show -3000000<=z.K/\z.K<=1000000/\-3000000<=z.sub/\z.sub<=1000000 by
   have D:=(show 0<=x.K/\x.K<=4000 by have h3:=s.r3;have D:=s.r1.M;unfold R3 at h3;omega);have A:=s.r1.sub;rw[d];unfold qH;refine⟨by show -3000000<=x.K-(((x.c i).F.length-m:Nat):Int);omega,by show x.K-(((x.c i).F.length-m:Nat):Int)<=1000000;omega,?_,?_⟩;show -3000000<=(if uV x=(i:Int)/\(m:Int)<x.sub then (m:Int) else x.sub);split <;> omega
   show(if uV x=(i:Int)/\(m:Int)<x.sub then (m:Int) else x.sub)<=1000000;split <;> omega)
  have S:=uU (show 0<z.B.length by rw[d];exact T);obtain⟨K,G,O,b,h⟩:=uH q;have hn:0<z.A.length:=by rw[uH r];omega
  have o:i<z.A.length:=by rw[uH r];omega
  have c4:=h.bx.2.2.2.2.1;rw[h.hc hn,uH r]at c4;have p7:=h.rw.p7 i o;rw[uH u]at p7;by_cases hc:n<m
  ·have q1:(m:Int) > (n:Int):=by omega
   have QC:=uU (b7j q i (m-1) o (by rw[uH u];omega) S (by rw[uH u];omega) ⟨p.1,p.2.1⟩ ⟨p.2.2.1,p.2.2.2⟩ (by rw[uH r];exact s.ok.n8) a ha f);go_wp21;rw[show((m:Int)-1)=((m-1:Nat):Int) by omega];refine QC.mono ?_;rintro e w2 ⟨rfl,A,_,V⟩;rw[(show b0g z i (m-1)=qH x i (m-1) by
    rw[uH R];have:=c4t x i (m-1) C (by omega);rw[show m-1+1=m by omega]at this;exact this)]at A;go_wp21;go_roundg (m-1)
   case measure=>omega
   case rel=>exact⟨m-1,rfl,by omega,λh=>by omega,λh=>by have:= I h;omega,A,V⟩
  have q1:¬(m:Int) > (n:Int):=by omega
  have E:=uU (show qH x i n=z by
   rw[uH R];obtain l|l:=ky (x.c i).F.length n;have:=uH Y (by omega);rw[b5h x i (uH C) n (by omega) (uH k),this,uH j];have:=uH I l;have:n=m:=by omega
   rw[this])
  go_wp21;go_end0;exact⟨rfl,by rw[uH E];exact q.ok,f⟩
structure GPr[qr](B:Nat)(w:World)(g:Nat)(x:Hp)(i k bc kc bp kp:Nat):Prop where
 c4:w.cell? ⟨g,4,none⟩=some (.slice (some ⟨bc,0,none⟩) x.A.length kc)
 p7:w.cell? ⟨bc,i*8+7,none⟩=some (.slice (some ⟨bp,0,none⟩) (x.c i).F.length kp)
 pr:qY w bp (k*6) ((x.c i).p k)
 f:∀j,w.frozen? ⟨bp,j,none⟩=false
 lo:B<=bp/\bp<w.heap.size
 set:∀(W:World)(q:Pr),Ext w W->GOk B (yJ W bp (k*6) q) g (hD x i { x.c i with F:=(x.c i).F.set k q })
theorem GOk.prw[qr]{B:Nat}(h:GOk B w g x)(i:Nat)(a:i<x.A.length)(k:Nat)(f:k<(x.c i).F.length):∃bc kc bp kp,GPr B w g x i k bc kc bp kp:=by
 obtain⟨D,t,A,kc,v,y,bc,l,C,n,b,h⟩:=h;have s:0<x.A.length:=by omega
 have m:0<(x.c i).F.length:=by omega
 obtain⟨u,o,_,r⟩:=h.rw.pl i a (h.rw.pw a m);refine⟨bc,kc,l i,n i,?_,?_,h.rw.p i a k f,o.2,⟨r,o.1⟩,λW q e=>?_⟩;have:=h.bx.2.2.2.2.1;rw[h.hc s]at this;exact this;have:=h.rw.p7 i a;rw[u]at this;exact this;have d:=h.ext e;exact⟨D,t,A,kc,v,y,bc,l,C,n,b,d.setp i a k f q (a1z _ _ _ _) (b4x (d.rw.pl i a (d.rw.pw a m)).2.1.n1 _ _) (b4w _ _ _ _ _ (d.rw.p i a k f)) (λj z=>a7a _ _ _ _ j z)⟩
theorem GPr.ext[qr]{B:Nat}{bp kp:Nat}(h:GPr B w g x i k bc kc bp kp)(e:Ext w w'):GPr B w' g x i k bc kc bp kp:=
 ⟨e.keep h.c4,e.keep h.p7,h.pr.ext e,λj=>((cE e).2 bp j h.lo.2).trans (h.f j),⟨h.lo.1,kF h.lo.2 e.size⟩,λW q a=>h.set W q (e.trans a)⟩
theorem d1p[p:qr](q:Nat)(o:Int)(hq:q=5/\o=5\/q=6/\o=6)(B g:Nat)(x:Hp)(a b c:Nat)(n:Int)(w:World)(h:GOk B w g x)(s:Snd x)(ha:a<16)(hb:b<16)(v:World)(hv:v.heap.size<=B)(hx:Ext v w):
  Calls prog 69 #[pP g,yU o a b c n] w λe w'=>a1a B g x a b c n q v e w':=by
 obtain⟨p1,o1,g1⟩:=GOk.enter h (w0:=doW w o a b c n) ((eAl w _).alloc _);obtain⟨br,kr,y⟩:=g1.B s.r1.B;have J:=uU o1;have G1:=uU g1;have R1:=uU y;have S:=uU s;have V0:=uU (show v.heap.size<=w.heap.size+1 by have:=hx.size;omega);have X1:=uU (show Ext v (doW w o a b c n) from(hx.alloc _).alloc _);obtain⟨E,V,Y,I,t4,t5,Z,t7⟩:=yE.new w o a b c n;have G:=y.c3;obtain⟨M,U,N⟩:=y.r b hb;have j0:=i0N b;have j1:(b:Int)<16:=by omega
 clear h s y o1 g1;obtain⟨F,X⟩:∃s:Pr->Wd,s=(if q=5 then Pr.key else Pr.val):=⟨_,rfl⟩;have HS:=uU X;clear X;have hq:(o == 5)=true/\q=5\/((o == 5)=false/\(o == 6)=true)/\q=6:=by obtain⟨rfl,rfl⟩|⟨rfl,rfl⟩:=hq <;> simp
 obtain⟨f5,rfl⟩|⟨⟨f5,f6⟩,rfl⟩:=hq;all_goals
  cases T:((x.r b).k == 2)
  have ae:((x.r b).k != 2)=true:=by simpa using T
  have D:=uU (show(x.r b).k≠2 by simpa using T);clear T;go_in;go_wp21;refine(a0r 2 _).mono ?_;rintro e w3 ⟨rfl,L⟩;have A:=uU (G1.ext L);have X3:=uU (X1.trans L);clear L G M U N E V Y I t4 t5 Z t7;obtain⟨u0,u1,u2,u3,u4,u5,u6,u7⟩:=A.boxes J;have aa:w.heap.size+1<w3.heap.size:=uQ u5;go_wp21;refine bodyPost_ret (v:=tD 2 0) (by simp[results,results69,go_sem,u5,u6]) rfl ?_;exact⟨_,2,0,rfl,.inl ⟨D,rfl,rfl,rfl⟩,GOk.done J A 2 0,eJ X3 V0 2 0⟩;have ae:((x.r b).k != 2)=false:=by simpa using T
  have D:=uU (show(x.r b).k=2 by simpa using T);obtain⟨_,ea,hi,_,_⟩:=S.at b hb D;have ab:=S.ok.p200 _ hi;obtain⟨i,hI⟩:=obE (x.at b);have HI:=uU hI;rw[<-hI]at ea hi ab;rw[ea]at N;clear T ea hI;have i0:=i0N i;have i1:(i:Int)<(x.A.length:Int):=by omega
  by_cases hc:c<(x.c i).F.length
  ·have ag:¬((c:Int)≥((x.c i).F.length:Int)):=by omega
   have an:(c:Int)<((x.c i).F.length:Int):=by omega
   have av:=i0N c;obtain⟨bc,kc,bp,kp,hp⟩:=G1.prw i hi c hc;have P1:=uU hp;have Q:=hp.c4;have R:=hp.p7;obtain⟨e0,e1,e2,e3,e4,e5⟩:=hp.pr;clear hp;go_in;go_wp21;go_quiet (fail);obtain⟨t,l⟩:∃W,W=(doW w o a b c n).drewN nq:=⟨_,rfl⟩;rw[<-l];have d:Ext (doW w o a b c n) t:=by rw[l];exact Ext.drewN (hO _) nq
   have G2:=uU (G1.ext d);have X2:=uU (X1.trans d);have Q:=d.keep Q;have R:=d.keep R;have E:=d.keep E;have I:=d.keep I;have e0:=d.keep e0;have e1:=d.keep e1;have e2:=d.keep e2;have e3:=d.keep e3;have e4:=d.keep e4;have e5:=d.keep e5;have ad:=cLt Q;have ah:=cLt R;have ai:=cLt e0;have aj:=cLt E;clear l d;clear G M U N V Y t4 t5 Z t7;go_wp21;go_region;obtain⟨z,C⟩:∃W,W=(t.alloc (oPr ((x.c i).p c))).drew:=⟨_,rfl⟩;rw[<-C];have O:Ext t z:=by rw[C];exact(eAl t _).drew
   have PB:qY z t.heap.size 0 ((x.c i).p c):=by rw[C];exact⟨by simp[go_sem],by simp[go_sem],by simp[go_sem],by simp[go_sem],by simp[go_sem],by simp[go_sem]⟩
   obtain⟨y0,y1,y2,y3,y4,y5⟩:=PB;have A:=uU (G2.ext O);have X3:=uU (X2.trans O);clear C O Q R E I e0 e1 e2 e3 e4 e5 ad ah ai aj;obtain⟨E,V,Y,I,t4,t5,Z,t7⟩:=A.boxes J;obtain⟨u,ao,y⟩:=A.B S.r1.B;have R3:=uU y;have G:=y.c3;obtain⟨M,U,N⟩:=y.r a ha;have f:=y.f;have al:=cLt G;have af:=cLt M;have aq:=y.lo.1;have aa:=cLt E;have au:=cLt y0;have a0:=i0N a;have a1:(a:Int)<16:=by omega
   have FK:=uU (show uJ ((x.c i).p c).key x.A.length/\uJ ((x.c i).p c).val x.A.length from by
    have:=((S.r4.2 i hi).2 c hc).2 (by rw[uH HI];exact(S.at b hb D).2.2.2.2);exact⟨this.1.1,this.2.1⟩)
   have X:=uH HS;simp at X;have FT:=uU (show uJ (F ((x.c i).p c)) x.A.length by rw[X];first|exact FK.1|exact FK.2);obtain⟨P,K⟩:∃r,r=zL x (F ((x.c i).p c)):=⟨_,rfl⟩;have QR:=uU (show ∀W,Ext z W->Calls prog 127 #[pP g,(F ((x.c i).p c)).v] W λe w'=>e=.returned P.v/\Ext W w' from λW xW=>by
    rw[K];obtain⟨ar,kr,ac,kc,vg,br,bc,pb,pa,pk,ak,h⟩:=A.ext xW;exact a6z (F ((x.c i).p c)) W h FT)
   subst X;clear FT HS FK;have HR:=uU K;have FN:=uU (show ∀W,Ext z W->GOk B (cX W u (a*3) P) g (regTo x a P)/\Ext v (cX W u (a*3) P) from λW xW=>⟨R3.set W a P xW ha,(cD W u (a*3) P).ext (X3.trans xW) (λq hq e=>by omega)⟩);unfold cX at FN;clear y K;go_wp21;go_cut [] (λwx=>Hid (GOk B wx g (regTo x a P))/\Hid (Ext v wx))
   case first=>
    go_region_with (go_at_call 127;refine(QR _ (eDr z)).mono ?_;rintro e w5 ⟨rfl,x5⟩;have j:=kI (eDr z) x5;have k3:=j.keep G;have k0:=j.keep M;have k1:=j.keep U;have k2:=j.keep N;have kf:=λm=>((cE j).2 u m af).trans (f m);have ka:=j.keep V;have F5:=uU (FN w5 j);clear x5 j)
    all_goals
     go_wp21;go_meet;exact⟨F5.1,F5.2⟩
   case rest=>
    obtain⟨G5,X5⟩:=hcut;clear G M U N f E V Y I t4 t5 Z t7 y0 y1 y2 y3 y4 y5 FN QR;go_wp21;refine(a0j 0 _).mono ?_;rintro e w6 ⟨rfl,x6⟩;have G6:=uU (G5.ext x6);have X6:=uU (X5.trans x6);obtain⟨u0,u1,u2,u3,u4,u5,u6,u7⟩:=G6.boxes J;have am:w.heap.size+1<w6.heap.size:=uQ u5;clear x6;go_wp21;refine bodyPost_ret (v:=tD 0 0) (by simp[results,results69,go_sem,u5,u6]) rfl ?_;exact⟨_,0,0,rfl,.inr (.inr ⟨D,by rw[<-uH HI];exact hc,by rw[<-uH HI];exact congrArg (regTo x a) HR,rfl,rfl⟩),GOk.done J G6 0 0,eJ X6 V0 0 0⟩
  have ag:(c:Int)≥((x.c i).F.length:Int):=by omega
  obtain⟨bc,kc,ap,kp,H⟩:=G1.cel i hi;have Q:=H.c4;have R:=H.p7;clear H;go_in;go_wp21;go_quiet (fail);obtain⟨t,l⟩:∃W,W=(doW w o a b c n).drewN nq:=⟨_,rfl⟩;rw[<-l];have d:Ext (doW w o a b c n) t:=by rw[l];exact Ext.drewN (hO _) nq
  clear l;go_wp21;refine(a0r 3 _).mono ?_;rintro e w3 ⟨rfl,L⟩;have A:=uU (G1.ext (d.trans L));have X3:=uU (X1.trans (d.trans L));clear L d G M U N E V Y I t4 t5 Z t7 Q R;obtain⟨u0,u1,u2,u3,u4,u5,u6,u7⟩:=A.boxes J;have aa:w.heap.size+1<w3.heap.size:=uQ u5;go_wp21;refine bodyPost_ret (v:=tD 3 0) (by simp[results,results69,go_sem,u5,u6]) rfl ?_;exact⟨_,3,0,rfl,.inr (.inl ⟨D,by rw[<-uH HI];omega,rfl,rfl,rfl⟩),GOk.done J A 3 0,eJ X3 V0 3 0⟩
abbrev a9d(x:Hp)(t:Nat)(c':Cl):Hp:={ x with A:=yC x t c' }
theorem d1w(x:Hp)(t:Nat)(a:Cl)(b:t<=x.A.length)(q:Nat):(a9d x t a).c q=if q=t then a else x.c q:=b9b x (a9d x t a) t a b rfl q
theorem newX_lt(x:Hp)(t:Nat)(b:Cl)(c:t<=x.A.length)(q:Nat)(a:q<(a9d x t b).A.length):q=t\/(q<x.A.length/\q≠t):=by
 have:=a3n x t b;have a:q<(yC x t b).length:=a;rw[this]at a;split at a <;> omega
theorem S7.of2{b' o:Nat}{c:Cl}(h:S7 w b o c)(e:∀j,j<7->w'.cell? (aA b' (o+j))=w.cell? (aA b (o+j))):S7 w' b' o c:=by
 have⟨f,g,i,a,l,d,k⟩:=h;exact⟨(e 0 (by omega)).trans f,(e 1 (by omega)).trans g,(e 2 (by omega)).trans i,(e 3 (by omega)).trans a,(e 4 (by omega)).trans l,(e 5 (by omega)).trans d,(e 6 (by omega)).trans k⟩
theorem GAt.newc[qr]{B:Nat}(h:GAt B w g x ar kr ac kc vg br bc pb pa pk role)(Z:0<x.B.length)(t:Nat)(ht:t<=x.A.length)(A:Cl)(c E F:Nat)(Y:Option Addr)(M:Nat)(hs:w.heap.size<=w'.heap.size)
  (ad:(c=bc/\0<kc)\/w.heap.size<=c) (ae:∀q,q<w.heap.size->q≠g->q≠c->w'.heap[q]?=w.heap[q]?) (ah:Nf1 g w') (bx:cK w' g (a9d x t A) (.slice ar x.B.length kr) (sS c (yC x t A).length E) vg)
  (N:Nf1 c w') (ab:∀j,j<E*8->∃v,w'.cell? (aA c j)=some v) (hB:B<=c) (ag:(yC x t A).length<=E) (af:S7 w' c (t*8) A) (aa:w'.cell? (aA c (t*8+7))=some (.slice Y A.F.length M))
  (ho:∀q,q<x.A.length->q≠t->∀j,j<8->w'.cell? (aA c (q*8+j))=w.cell? (aA bc (q*8+j))) (hp:∀k,k<A.F.length->qY w' F (k*6) (A.p k)) (X:A.F.length<=M) (R:0<M->Y=some (aA F 0)/\Nfp F M w'/\w.heap.size<=F/\B<=F/\F≠c) :
  GAt B w' g (a9d x t A) ar kr (some (aA c 0)) E vg br c (λq=>if q=t then F else pb q) (λq=>if q=t then Y else pa q) (λq=>if q=t then M else pk q) (λd=>if d=c then 3 else if w.heap.size<=d then 6+t else role d):=by
 have Q:∀d,d<w.heap.size->role d≠3->d≠c:=λd hd n e=>by
  obtain⟨i,l⟩|i:=ad;exact n (by rw[e,i];exact(h.cc l).ro);omega
 have J:∀d,d<w.heap.size->role d≠3->(if d=c then 3 else if w.heap.size<=d then 6+t else role d)=role d:=λd hd n=>by rw[if_neg (Q d hd n),if_neg (by omega)]
 have o:∀q,q<w.heap.size->role q≠0->role q≠3->w'.heap[q]?=w.heap[q]?:=λq b h0 h3=>ae q b (λe=>h0 (e▸h.sp.g)) (Q q b h3)
 have O:=d1w x t A ht;have C:=newX_lt x t A ht;have pf:∀q,q<x.A.length->0<pk q->w'.heap[pb q]?=w.heap[pb q]?:=λq b G=>o (pb q) (h.rw.pl q b G).2.1.1 (by rw[h.sp.p q b G];omega) (by rw[h.sp.p q b G];omega)
 have fr:0<x.B.length->w'.heap[br]?=w.heap[br]?:=λn=>o br (h.rw.nr n).1.1 (by rw[h.sp.r n];omega) (by rw[h.sp.r n];omega)
 have W:∀q,q<x.A.length->0<pk q->pb q≠c:=λq b G=>Q (pb q) (h.rw.pl q b G).2.1.1 (by rw[h.sp.p q b G];omega)
 refine⟨bx,ah,h.lo,h.ha,λ_=>rfl,⟨λj D=>?_,λq b=>?_,λq b=>?_,λq b j D=>?_,λq b f=>?_,λn=>⟨uY (h.rw.nr n).1 (fr n) hs,(h.rw.nr n).2⟩,λ_=>⟨N,hB⟩,λ_=>Q br (h.rw.nr Z).1.1 (by rw[h.sp.r Z];omega),λq K b I L z H=>?_,λq b=>?_⟩,h.gr.block (λq b=>o q (h.gr.lt q b).2 (by rw[h.sp.y q b];omega) (by rw[h.sp.y q b];omega)),⟨?_,λn=>?_,λ_=>if_pos rfl,λq b=>?_,λq b f=>?_⟩,ag,h.pr.of (λq b z=>o q b (by rw[z];omega) (by rw[z];omega)) (λq b z=>by(try dsimp only);rw[J q b (by rw[z];omega)];exact z),λ_=>⟨rfl,if_pos rfl,N,ab,hB⟩,λn=>h.rob n (fr n)⟩;exact(h.rw.r j D).of λm _=>cOb br _ (fr (by have:j<x.B.length:=D;omega))
 rw[O q];obtain e|⟨i,l⟩:=C q b
 ·rw[if_pos e,e];exact af
 rw[if_neg l];exact(h.rw.s q i).of2 λj D=>ho q i l j (by omega)
 rw[O q];obtain e|⟨i,l⟩:=C q b
 ·simp only[if_pos e];rw[e];exact aa
 simp only[if_neg l];rw[ho q i l 7 (by omega)];exact h.rw.p7 q i;rw[O q]at D ⊢;obtain e|⟨i,l⟩:=C q b
 ·simp only[if_pos e]at D ⊢;exact hp j D
 simp only[if_neg l]at D ⊢;exact(h.rw.p q i j D).of λm _=>cOb (pb q) _ (pf q i (h.rw.pw i (by omega)))
 obtain e|⟨i,l⟩:=C q b
 ·simp only[if_pos e]at f ⊢;have⟨V,U,P,T,S⟩:=R f;exact⟨V,U,⟨λe=>by have:=(h.rw.nr Z).1.1;omega,S⟩,T⟩
 simp only[if_neg l]at f ⊢;have⟨V,U,P,T⟩:=h.rw.pl q i f;exact⟨V,eN U (pf q i f) hs,⟨P.1,W q i f⟩,T⟩;obtain e|⟨i,l⟩:=C q b
 ·have e':K≠t:=λu=>L (by rw[e,u])
  obtain u|⟨u1,u2⟩:=C K I;exact absurd u e';simp only[if_pos e,if_neg e']at z H ⊢;have:=(h.rw.pl K u1 H).2.1.1;have:=(R z).2.2.1;omega
 obtain u|⟨u1,u2⟩:=C K I
 ·simp only[if_pos u,if_neg l]at z H ⊢;have:=(h.rw.pl q i z).2.1.1;have:=(R H).2.2.1;omega
 simp only[if_neg l,if_neg u2]at z H ⊢;exact h.rw.dp q K i u1 L z H;rw[O q];obtain e|⟨i,l⟩:=C q b
 ·simp only[if_pos e];exact X
 simp only[if_neg l];exact h.rw.kp q i;rw[J g h.nf.1 (by rw[h.sp.g];omega)];exact h.sp.g;rw[J br (h.rw.nr n).1.1 (by rw[h.sp.r n];omega)];exact h.sp.r n;rw[J q (h.gr.lt q b).2 (by rw[h.sp.y q b];omega)];exact h.sp.y q b;obtain e|⟨i,l⟩:=C q b
 ·simp only[if_pos e]at f ⊢;have⟨_,_,P,_,S⟩:=R f;rw[if_neg S,if_pos P,e]
 simp only[if_neg l]at f ⊢;rw[J (pb q) (h.rw.pl q i f).2.1.1 (by rw[h.sp.p q i f];omega)];exact h.sp.p q i f
abbrev z6:Array Value:=#[iv 0,iv 0,iv 0,iv 0,iv 0,iv 0]
theorem made6(m j:Nat)(a:j<m):(madeCells z6 m)[j]?=some (iv 0):=by
 have b:j % 6<6:=mT _ (by omega);have:([iv 0,iv 0,iv 0,iv 0,iv 0,iv 0]:List Value)[j % 6]?.getD default=iv 0:=by
  have:j % 6=0\/j % 6=1\/j % 6=2\/j % 6=3\/j % 6=4\/j % 6=5:=by omega
  obtain e|e|e|e|e|e:=this <;> rw[e] <;> rfl
 simp[madeCells,a];exact this
theorem c1o(n:Nat)(f:n<=1048576)(w:World):(Instr.makeSlice 49 (iv n) (iv n)).run prog w=.ok (sS w.heap.size n n) (w.alloc (.cells (madeCells z6 (n*6)) 53)):=by
 have⟨d,e,b,a,c⟩:=info_parts a2n;have h:=run_make (P:=prog) w 49 53 d _ underlying49 e b .i64 .i64 n n (by omega) (nB _) (by rw[c];omega) (by omega);rw[a]at h;simp only[Int.toNat_natCast]at h;exact h
structure a6f(w0 W:World)(qb n:Nat):Prop where
 lt:w0.heap.size<=qb
 nf:Nfp qb n W
 z:∀k,k<n->qY W qb (k*6) Pr0
theorem a6f.ext{n:Nat}(h:a6f w0 W qb n)(e:Ext W W'):a6f w0 W' qb n:=⟨h.lt,h.nf.ext e,λk a=>(h.z k a).ext e⟩
theorem a6f.made(w0 w:World)(n:Nat)(t:TypeId)(e:Ext w0 w):a6f w0 (w.alloc (.cells (madeCells z6 (n*6)) t)) w.heap.size n:=by
 have c:(w.alloc (.cells (madeCells z6 (n*6)) t)).heap[w.heap.size]?=some (.cells (madeCells z6 (n*6)) t):=heap_alloc_new w _;have a:∀j,j<n*6->(w.alloc (.cells (madeCells z6 (n*6)) t)).cell? (aA w.heap.size j)=some (iv 0):=λj b=>cell_of_row _ w.heap.size j _ _ (0,0) c▸made6 _ j b
 exact⟨e.size,⟨by simp,λ_=>by simp[go_sem],λj b=>⟨_,a j b⟩⟩,λk d=>⟨a _ (by omega),a _ (by omega),a _ (by omega),a _ (by omega),a _ (by omega),a _ (by omega)⟩⟩
theorem a6f.only{n:Nat}(h:a6f w0 W qb n)(o:uZ S W W')(b:¬S qb):a6f w0 W' qb n:=
 ⟨h.lt,eN h.nf (o.block qb h.nf.1 b) o.size,λk c=>(h.z k c).of λ_ _=>cOb qb _ (o.block qb h.nf.1 b)⟩
theorem rep_p(c:Cl)(m:Nat)(h:c.F=List.replicate m Pr0)(k:Nat):c.p k=Pr0:=by grind[Hp.c,Pr0,Cl.p]
theorem c4v[qr]{B:Nat}(h:GAt B w0 g x ar kr ac kc vg br bc pb pa pk role)(K:0<x.B.length)(t:Nat)(v:t<x.A.length)(a:Cl)(m:Nat)(I:a.F=List.replicate m Pr0)(W:World)(e:Ext w0 W)(b:Nat)(np:a6f w0 W b m):
  GOk B (eK W bc (t*8) a (sS b m m)) g (a9d x t a):=by
 have J:0<x.A.length:=by omega
 have n:0<kc:=kF J h.kl;have f:=h.cc n;have d:=h.ext e;have l:(yC x t a).length=x.A.length:=by rw[a3n,if_pos v]
 have A:a.F.length=m:=by rw[I];simp
 have o:=a0a W bc (t*8) a (sS b m m);have p:b≠bc:=λe=>by have:=np.lt;have:=f.nf.1;omega
 have w:g≠bc:=λe=>by have y:=h.sp.g;have D:=f.ro;rw[e]at y;omega
 have C:=o.block g d.nf.1 w;obtain⟨F,G⟩:=a3y W bc (t*8) a (x.c t) (sS b m m) _ (d.rw.s t v) (d.rw.p7 t v);have E:=a1k W bc (t*8) a (sS b m m);have i:=np.only o p;refine⟨_,_,_,_,_,_,_,_,_,_,_,h.newc K t (nQ v) a bc kc b (some (aA b 0)) m (kA e.size o.size) (.inl ⟨rfl,n⟩) (λq r y D=>(o.block q (kF r e.size) D).trans (e.block q r)) (uY d.nf C o.size) ?_ (a3b (d.cc n).nf _ _ _) (λj H=>?_) f.lo (l▸h.kl) F (by rw[A];exact G) (λq r y j H=>?_) (λk n=>?_) (A▸hT _) (λr=>⟨rfl,i.nf,i.lt,by have:=f.lo;have:=f.nf.1;have:=np.lt;omega,p⟩)⟩;have:=(d.bx.block C);rw[f.ad]at this;rw[l];exact this;by_cases u:j<t*8\/t*8+8<=j
 ·rw[E j u];exact(d.cc n).cp j H
 by_cases u7:j=t*8+7
 ·rw[u7];exact⟨_,G⟩
 have:=F.some (j-t*8) (by omega);rw[show t*8+(j-t*8)=j by omega]at this;exact this;rw[E _ (by omega)];exact(cE e).1 bc _ f.nf.1;rw[rep_p a m I k];exact i.z k (by omega)
structure AppC[qr](B g:Nat)(x:Hp)(c':Cl)(v w:World)(b' k':Nat)(w':World):Prop where
 gk:∀W,Ext w' W->GOk B (W.setCell ⟨g,4,none⟩ (.slice (some ⟨b',0,none⟩) (x.A.length+1) k')) g (a9d x x.A.length c')
 far:w'.heap[g]?=w.heap[g]?
 sz:w.heap.size<=w'.heap.size
 ex:Ext v w'
theorem cell_fC{w:World}{b o:Nat}{c:Cl}{u:Value}(s:S7 w b o c)(p:w.cell? (aA b (o+7))=some u)(j:Nat)(k:j<8):w.cell? (aA b (o+j))=(fC (c,u))[j]?:=by
 have⟨d,h,e,g,a,i,f⟩:=s;match j,k with
 | 0,_=>exact d
 | 1,_=>exact h
 | 2,_=>exact e
 | 3,_=>exact g
 | 4,_=>exact a
 | 5,_=>exact i
 | 6,_=>exact f
 | 7,_=>exact p
def a8f(x:Hp)(pa:Nat->Option Addr)(pk:Nat->Nat):List (Cl×Value):=(List.range x.A.length).map (λq=>(x.c q,.slice (pa q) (x.c q).F.length (pk q)))
theorem d1y(x:Hp)(b:Nat->Option Addr)(a:Nat->Nat):(a8f x b a).length=x.A.length:=by simp[a8f]
theorem c6q(x:Hp)(b:Nat->Option Addr)(a:Nat->Nat)(q:Nat)(d:q<(a8f x b a).length):(a8f x b a)[q]=(x.c q,.slice (b q) (x.c q).F.length (a q)):=by simp[a8f]
theorem d1z[qr]{B:Nat}{w0:World}{g:Nat}{x:Hp}{ar:Option Addr}{kr:Nat}{ac:Option Addr}{kc:Nat}{vg:Value}{br bc:Nat}{pb:Nat->Nat}{pa:Nat->Option Addr}{pk:Nat->Nat}{role:Nat->Nat}(h:GAt B w0 g x ar kr ac kc vg br bc pb pa pk role)(r0:0<x.B.length)(n8:x.A.length<=8000)(d:Cl)(m:Nat)(hm:d.F=List.replicate m Pr0)(l:Nat)(Y:Option Addr)(hY:0<m->Y=some (aA l 0))(ty:TypeId)(n:World)(y:Ext w0 n)(np:a6f w0 n l m)(ad:Addr)(c:Nat)(hz:∀j u,(fC (d,.slice Y m m))[j]?=some u->n.cell? (ad.add j)=some u)(v:World)(hv:v.heap.size<=B)(hx:Ext v w0):
  ∃b' k' w',(Builtin.append_ #[24,24] ty #[.slice ac x.A.length kc,.slice (some ad) 1 c]).run prog n=.ok (.slice (some ⟨b',0,none⟩) (x.A.length+1) k') w'/\AppC B g x d v w0 b' k' w':=by
 have F:=h.ext y;have⟨i0,O,aa,E,V⟩:=info_parts a7v;have ab:∀u∈fC (d,.slice Y m m),u.oneCell'=true:=λu K=>by
  simp[fC]at K;obtain rfl|rfl|rfl|rfl|rfl|rfl|rfl|rfl:=K <;> rfl
 have H:(yC x x.A.length d).length=x.A.length+1:=by rw[a3n,if_neg (by omega)]
 have ml:d.F.length=m:=by rw[hm];simp
 have aj:B<=w0.heap.size:=kA h.lo (nQ h.nf.1);by_cases hr:x.A.length+1<=kc;have J:0<kc:=by omega
 have G:=F.cc J;have A:=run_append_room_cells (P:=prog) n 24 ty 51 i0 underlying24 O bc 0 x.A.length kc ad 1 c (fC (d,.slice Y m m)) (by rw[E];rfl) hz ab hr (λj t=>by
  have t:j<8:=t;have⟨u,K⟩:=G.cp (0+x.A.length*i0.size+j) (by rw[E];omega);rw[K];rfl) (λj _=>G.nf.2 _)
 rw[E,kO]at A;have T:uZ (λq=>q=bc) n (n.setCells bc (x.A.length*8) (fC (d,.slice Y m m))):=a1d (S:=λq=>q=bc) rfl (uZ.refl _ n);have I:g≠bc:=λe=>by have L:=h.sp.g;have h2:=G.ro;rw[e]at L;omega
 have bw:bc<w0.heap.size:=(h.cc J).nf.1;have lY:l≠bc:=λe=>by have:=np.lt;omega
 refine⟨bc,kc,_,by rw[G.ad];exact A,⟨λW e=>?_,(T.block g F.nf.1 I).trans (y.block g h.nf.1),kA y.size T.size,T.ext (hx.trans y) (λq C e=>by have:=G.lo;omega)⟩⟩;have R:uZ (λq=>q=bc) n W:=T.trans (uZ.of_ext e);have cW:∀j,W.cell? ⟨bc,j,none⟩=(n.setCells bc (x.A.length*8) (fC (d,.slice Y m m))).cell? ⟨bc,j,none⟩:=λj=>(cE e).1 bc j (kF G.nf.1 T.size)
 have M:∀j,(W.setCell ⟨g,4,none⟩ (.slice (some ⟨bc,0,none⟩) (x.A.length+1) kc)).cell? ⟨bc,j,none⟩=(n.setCells bc (x.A.length*8) (fC (d,.slice Y m m))).cell? ⟨bc,j,none⟩:=λj=>(uC _ (.inl I)).trans (cW j)
 have a:∀j,j<8->(W.setCell ⟨g,4,none⟩ (.slice (some ⟨bc,0,none⟩) (x.A.length+1) kc)).cell? ⟨bc,x.A.length*8+j,none⟩=(fC (d,.slice Y m m))[j]?:=λj t=>(M _).trans (a4p bc _ _ j n (λi Z=>G.cp _ (by have:i<8:=Z;omega)) t)
 have ae:Nf1 bc W:=G.nf.put.ext e;have qg:l≠g:=λe=>by have:=np.lt;have:=h.nf.1;omega
 have o:=(np.only R lY).only (S:=λq=>q=g) (uZ.setCell (S:=λq=>q=g) (uZ.refl _ W) (p:=⟨g,4,none⟩) rfl (.slice (some ⟨bc,0,none⟩) (x.A.length+1) kc)) qg;refine⟨_,_,_,_,_,_,_,_,_,_,_,h.newc r0 x.A.length (hT _) d bc kc l Y m (by have:=R.size;have:=y.size;simp only[World.setCell,Array.size_modify];omega) (.inl ⟨rfl,J⟩) (λq C L h2=>(kP _ _ _ _ L).trans ((R.block q (kF C y.size) h2).trans (y.block q C))) ((uY F.nf (R.block g F.nf.1 I) R.size).set _ _) ?_ (ae.set _ _) (λj t=>?_) G.lo (H▸hr) ⟨a 0 (by omega),a 1 (by omega),a 2 (by omega),a 3 (by omega),a 4 (by omega),a 5 (by omega),a 6 (by omega)⟩ (ml▸a 7 (by omega)) (λq C L j t=>?_) (λk J=>?_) (ml▸hT _) (λC=>⟨hY C,o.nf,o.lt,by have:=o.lt;omega,lY⟩)⟩;have:=(F.bx.block (R.block g F.nf.1 I)).set4 (.slice (some ⟨bc,0,none⟩) (x.A.length+1) kc);rw[H];exact this;by_cases u:j<x.A.length*8\/x.A.length*8+8<=j
 ·rw[M,a1v bc _ _ _ n (by have:(fC (d,.slice Y m m)).length=8:=rfl;omega)];exact G.cp j t
 have:=a (j-x.A.length*8) (by omega);rw[show x.A.length*8+(j-x.A.length*8)=j by omega]at this;rw[this];have hl:j-x.A.length*8<(fC (d,.slice Y m m)).length:=by have:(fC (d,.slice Y m m)).length=8:=rfl;omega
 exact⟨_,ma hl⟩;rw[M,a1v bc _ _ _ n (by omega)];exact(cE y).1 bc _ bw;rw[rep_p d m hm k];exact o.z k (by omega);have N:=d1y x pa pk;have rc:∀W,Ext w0 W->∀q,q<x.A.length->∀j,j<8->W.cell? ⟨bc,q*8+j,none⟩=(fC (x.c q,.slice (pa q) (x.c q).F.length (pk q)))[j]?:=λW e q C j t=>cell_fC ((h.ext e).rw.s q C) ((h.ext e).rw.p7 q C) j t
 have U:∃r w',(Builtin.append_ #[24,24] ty #[.slice ac x.A.length kc,.slice (some ad) 1 c]).run prog n=.ok r w'/\w'.ownsRow n.heap.size 51 8 r (x.A.length+1) ((a8f x pa pk).flatMap fC++fC (d,.slice Y m m))/\n.grownBy w' none:=by
  have X:x.A.length+1<=maxLen:=by unfold maxLen;omega
  cases ea:ac with
  | none=>
   have k0:kc=0:=by
    obtain k0|k0:=mN kc;exact k0;have:=(h.cc k0).ad;rw[ea]at this;cases this
   have n0:x.A.length=0:=by have:=h.kl;omega
   have l0:a8f x pa pk=[]:=mU (N▸n0);rw[k0,l0,n0];have⟨r,w',r1,r2,r3,_⟩:=run_append_own (P:=prog) n n.heap.size 24 ty 51 i0 _ 8 80 underlying24 O aa E V rfl (by decide) (.slice none 0 0) 0 [] (mB n _ _ _) ad 1 c (fC (d,.slice Y m m)) rfl hz ab (by unfold maxLen;omega) (by decide) (hT _);exact⟨r,w',r1,r2,r3⟩
  | some b=>
   refine run_append_arg_grows (P:=prog) n 24 ty 51 i0 _ 8 80 underlying24 O aa E V rfl (by decide) b _ _ ((a8f x pa pk).flatMap fC) (by rw[a3r fC 8 (λ_=>rfl),N]) (λj u K=>?_) ad 1 c (fC (d,.slice Y m m)) rfl hz (by omega) X (by omega);have t:j<((a8f x pa pk).flatMap fC).length:=by
    obtain q|q:=ky j ((a8f x pa pk).flatMap fC).length;exact q;rw[na q]at K;cases K
   rw[a3r fC 8 (λ_=>rfl),N]at t;have hb:=h.hc (by omega);rw[ea]at hb;rw[Option.some.inj hb];exact b1b fC 8 (by omega) (λ_=>rfl) (a8f x pa pk) bc 0 (λi Z k J=>by rw[kO,c6q x pa pk i Z];exact rc n y i (by rw[N]at Z;exact Z) k J) j u K
 have⟨r,w',A,w,D⟩:=U;have eg:Ext n w':=⟨D.os,D.tape,D.output,D.size,λk J=>D.block k J (by simp)⟩;have vk:0<kQ r:=by have:=b3x w;omega
 have⟨o1,o2,o3,o4,o5⟩:=b8k w vk;have vf:r=.slice (some ⟨qW r,0,none⟩) (x.A.length+1) (kQ r):=o1▸(a0d w).1;have Q:w'.ownsRow n.heap.size 51 8 r (a8f x pa pk++[(d,Value.slice Y m m)]).length ((a8f x pa pk++[(d,Value.slice Y m m)]).flatMap fC):=by
  rw[ko,N,nS];simpa using w
 have cz:=a6i (f:=fC) (λ_=>rfl) Q;have ai:(a8f x pa pk++[(d,Value.slice Y m m)]).length=x.A.length+1:=by rw[ko,N];rfl
 refine⟨qW r,kQ r,w',vf▸A,⟨λW e=>?_,(eg.block g F.nf.1).trans (y.block g h.nf.1),kA y.size eg.size,(hx.trans y).trans eg⟩⟩;have⟨b',ah⟩:=obE (qW r);rw[<-ah]at o3 o4 o5 cz ⊢;have gb:g≠b':=λe=>by have:=F.nf.1;omega
 have M:∀j,(W.setCell ⟨g,4,none⟩ (.slice (some ⟨b',0,none⟩) (x.A.length+1) (kQ r))).cell? ⟨b',j,none⟩=w'.cell? ⟨b',j,none⟩:=λj=>(uC _ (.inl gb)).trans ((cE e).1 b' j o3.1)
 have a:∀j,j<8->(W.setCell ⟨g,4,none⟩ (.slice (some ⟨b',0,none⟩) (x.A.length+1) (kQ r))).cell? ⟨b',x.A.length*8+j,none⟩=(fC (d,.slice Y m m))[j]?:=λj t=>by
  rw[M,cz x.A.length (by omega) j t];have:(a8f x pa pk++[(d,Value.slice Y m m)])[x.A.length]'(by omega)=(d,Value.slice Y m m):=by rw[List.getElem_append_right (by omega)];simp[N]
  rw[this]
 have eW:Ext n W:=eg.trans e;have qg:l≠g:=λe=>by have:=np.lt;have:=h.nf.1;omega
 have o:=(np.ext eW).only (S:=λq=>q=g) (uZ.setCell (S:=λq=>q=g) (uZ.refl _ W) (p:=⟨g,4,none⟩) rfl (.slice (some ⟨b',0,none⟩) (x.A.length+1) (kQ r))) qg;have ag:B<=b':=by have:=y.size;omega
 refine⟨_,_,_,_,_,_,_,_,_,_,_,h.newc r0 x.A.length (hT _) d b' (kQ r) l Y m (by have:=eW.size;have:=y.size;simp only[World.setCell,Array.size_modify];omega) (.inr (by have:=y.size;omega)) (λq C L h2=>(kP _ _ _ _ L).trans ((y.trans eW).block q C)) ((F.nf.ext eW).set _ _) ?_ ((o3.ext e).set _ _) (λj t=>?_) ag (H▸b3x w) ⟨a 0 (by omega),a 1 (by omega),a 2 (by omega),a 3 (by omega),a 4 (by omega),a 5 (by omega),a 6 (by omega)⟩ (ml▸a 7 (by omega)) (λq C L j t=>?_) (λk J=>?_) (ml▸hT _) (λC=>⟨hY C,o.nf,o.lt,by have:=o.lt;omega,λe=>by have:=np.nf.1;omega⟩)⟩;have:=(F.bx.ext eW).set4 (.slice (some ⟨b',0,none⟩) (x.A.length+1) (kQ r));rw[H];exact this;rw[M];exact o4 j t;rw[M,cz q (by omega) j t];have:(a8f x pa pk++[(d,Value.slice Y m m)])[q]'(by omega)=(x.c q,.slice (pa q) (x.c q).F.length (pk q)):=by rw[List.getElem_append_left (by omega)];exact c6q x pa pk q (by omega)
 rw[this];exact(rc w0 (hO _) q C j t).symm;rw[rep_p d m hm k];exact o.z k (by omega)
theorem b7o[qr]{ops:Array Oper}{o:Oper}{a:Act}{K:Act->World->Prop}{Q:Exit->Act->World->Prop}{E:Prop}(b:World)(e:o.guard=none)(s y:Operand)
  (r:o.op=.call { callee:=.builtin .append,args:=#[s,y],argTypes:=#[24,24] })
  {B:Nat}              (h:GAt B w0 g x ar kr ac kc vg br bc pb pa pk role) (D:0<x.B.length) (C:x.A.length<=8000) (d:Cl) (m:Nat) (w:d.F=List.replicate m Pr0) (f:Nat) (Y:Option Addr) (hY:0<m->Y=some (aA f 0)) (t:Ext w0 b) (np:a6f w0 b f m) (ad:Addr) (c:Nat)
  (A:a.eval s=.slice ac x.A.length kc) (q:a.eval y=.slice (some ad) 1 c) (n:∀j u,(fC (d,.slice Y m m))[j]?=some u->b.cell? (ad.add j)=some u) (v:World) (z:v.heap.size<=B) (p:Ext v w0)
  (F:∀b' k' w',AppC B g x d v w0 b' k' w'->K (a.put o.dst (sS b' (x.A.length+1) k')) w') :
  if Region.wanted o (yielded ops a.tmps)=true then Oper.wp prog o a b K Q else E:=by
 have l:Region.wanted o (yielded ops a.tmps)=true:=by simp[Region.wanted,e]
 rw[if_pos l];obtain⟨b',k',w',i,k⟩:=d1z h D C d m w f Y hY o.type b t np ad c n v z p;unfold Oper.wp execOp;simp only[r,resolve,invoke,builtin,Sem.run_bind,Sem.run_pure,Result.andThen_ok,List.map_toArray,List.map_cons,List.map_nil,A,q,i];exact F b' k' w' k
structure b3m(x z:Hp):Prop where
 hl:z.A.length=x.A.length
 rest:a2i z x
 c:∀q,(z.c q).st=(x.c q).st/\(z.c q).kind=(x.c q).kind/\(z.c q).born=(x.c q).born/\(z.c q).J=(x.c q).J/\(z.c q).to=(x.c q).to
 wk:∀q,(z.c q).T=(x.c q).T\/((x.c q).st=1/\0<=(z.c q).T/\(z.c q).T<=3)
 la:∀q,(z.c q).U=(x.c q).U\/((x.c q).st=1/\0<=(z.c q).U/\(z.c q).U<=3)
 sp:∀q,dH (z.c q)->dH (x.c q)
 p:∀q,q<x.A.length->∀k,k<(z.c q).F.length->∃j,j<(x.c q).F.length/\(z.c q).p k=(x.c q).p j/\(uV x=(q:Int)->((k:Int)<z.sub↔(j:Int)<x.sub))
 le:∀q,q<x.A.length->(z.c q).F.length<=(x.c q).F.length
 us:z.K=(dZ z.A:Nat)
 ul:z.K<=x.K
 s0:0<=z.sub/\z.sub<=x.sub
 s1:∀q,q<x.A.length->uV x=(q:Int)->z.sub<=(z.c q).F.length
theorem b7p(a:x.E=5)(h:x.I<x.A.length):uV x=x.I:=by grind[Snd.I,uV]
theorem b7q(a:x.E=2)(h:0<x.D.length):uV x=x.D.getD 0 0:=by grind[uV]
theorem Snd.thin{x z:Hp}(h:Snd x)(t:b3m x z):Snd z:=by
 have⟨P,e2,H,s,A,B,e7,e8,e9,O⟩:=t.rest;have J:∀q,uW z q↔uW x q:=λq=>by unfold uW;rw[s,A,(t.c q).1,(t.c q).2.2.2.1]
 have Q:∀(y:Wd)(m M:Prop),(m->M)->hE x y m->hE z y M:=λy m M C l=>⟨t.hl▸l.1,λu=>by
  rw[(t.c _).1,J];obtain o|o:=l.2 u;grind;exact .inr o⟩
 have Z:∀y:Wd,eQ z y->eQ x y:=λy V=>⟨V.1,(t.c _).2.2.2.1▸V.2⟩
 have K:uD z↔uD x:=by unfold uD;rw[s]
 have s0:=t.s0;have T:x.D.length≠0->0<=x.D.getD 0 0/\x.D.getD 0 0<x.A.length:=λv=>by
  refine h.r5.2.2 _ ?_;cases L:x.D with
  | nil=>rw[L]at v;simp at v
  | cons g G=>simp
 refine⟨?_,⟨λq f=>?_,λq f h0 k u=>?_⟩,⟨t.us,?_⟩,⟨λi Y=>?_,λq f=>⟨λd=>?_,λk u=>?_⟩⟩,⟨λC=>?_,λq f=>?_,λg v=>?_⟩,⟨λn=>?_,λn=>?_,λn=>?_,λn=>?_⟩,λC q f=>⟨λN=>?_,λk u=>?_⟩,λq f=>?_⟩;have r:=h.r1;exact⟨P▸r.M,H▸r.B,by rw[t.hl,P];exact r.A,by rw[B,t.hl];exact r.D,e2▸r.born,e9▸r.Q,O▸r.S,e7▸r.per,e8▸r.V,s▸r.E,by rw[A,t.hl];exact r.I,by have:=r.sub;omega⟩;rw[t.hl]at f;have E:=h.r2.1 q f;have⟨c1,c2,c3,c4,F⟩:=t.c q;have l:=t.le q f;have wk:=t.wk q;have la:=t.la q;unfold cQ;obtain⟨o,b,d⟩|⟨o,m⟩|⟨o,m⟩:=E
 ·grind[a5d,Grw.at]
 refine .inr (.inl ⟨c1▸o,?_,s▸m.2.1,F▸m.2.2.1,F▸m.2.2.2.1,by rw[F,(t.c _).1];exact m.2.2.2.2.1,λn k u=>?_⟩)
 ·have b:=m.1;unfold a5d at b ⊢;omega
 rw[(t.c k).1];rw[s]at n;rw[F]at u;exact m.2.2.2.2.2 n k u;grind[a2m,Grw.at];rw[t.hl]at f;rw[(t.c q).1]at h0;rw[(t.c k).1,(t.c k).2.2.1,(t.c k).2.2.2.2,(t.c q).1,(t.c q).2.2.1,(t.c q).2.2.2.2];exact h.r2.2 q f h0 k u;rw[P];have:=h.r3.2;have:=t.ul;omega;have e:z.B[i]=x.B[i]'(H▸Y):=by simp only[H]
 rw[e];exact Q _ _ _ id (h.r4.1 i (H▸Y));rw[t.hl]at f;exact(h.r4.2 q f).1 ⟨(J q).1 d.1,t.sp q d.2⟩;rw[t.hl]at f;have⟨j,U,S,I⟩:=t.p q f k u;have E:=(h.r4.2 q f).2 j U;rw[S];have X:cN z q k->cN x q j:=λm=>⟨s▸m.1,λn=>by grind[cN,Grw.at,b7p]⟩
 refine⟨λd=>?_,λd=>?_⟩;rw[t.hl];exact E.1 ((J q).1 d);have:=E.2 (λd2=>d ((J q).2 d2));exact⟨Q _ _ _ (λa b=>a (X b)) this.1,Q _ _ _ (λa b=>a (X b)) this.2⟩;rw[B];exact h.r5.1 (λm=>C (K.2 m));rw[t.hl]at f;have o:=h.r5.2.1 q f;unfold a0n at o ⊢;rw[(t.c q).2.2.2.1,B,K,s,A];exact o;rw[B]at v;rw[t.hl];exact h.r5.2.2 g v;rw[s]at n;have:=h.r6.1 n;rw[A];omega;rw[s]at n;have r:=h.r6.2.1 n;rw[A,B];refine⟨r.1,λv=>by have:=r.2.1 v;omega,λv=>?_⟩;have gr:=T v;have e:z.g0=x.g0:=by unfold Hp.g0;rw[B]
 rw[e];refine t.s1 x.g0 (by unfold Hp.g0;omega) ?_;rw[b7q n (by omega)];unfold Hp.g0;omega;rw[s]at n;have hh:=h.r1.I;rw[A,t.hl];refine⟨λf=>?_,λf=>?_⟩
 ·rw[(t.c _).1]at f;have:=(h.r6.2.2.1 n).1 f;omega
 refine t.s1 _ (by omega) ?_;rw[b7p n (by omega)];omega;rw[s]at n;have:=h.r6.2.2.2 n;omega;rw[t.hl]at f;refine(h.r7 (K.1 C) q f).1 ⟨t.sp q N.1,(t.c q).2.2.2.1▸N.2.1,?_⟩;have:=N.2.2;rw[s,A]at this;exact this;rw[t.hl]at f;have D:k<(z.c q).F.length/\∀j:Nat,(uV x=(q:Int)->((k:Int)<z.sub↔(j:Int)<x.sub))->j<(x.c q).F.length->j<eZ x q:=by
  unfold eZ at u;rw[(t.c q).2.2.2.1,s,B]at u;split at u;grind[eZ];rename_i hc;split at u
  ·rename_i R;have W:uV x=(q:Int):=b7q R.1 (by omega)▸R.2.2;have:=t.s1 q f W;refine⟨by omega,λj I _=>?_⟩;unfold eZ;rw[if_neg hc,if_pos R];have:=(I W).1 (by omega);omega
  omega
 have⟨j,U,S,I⟩:=t.p q f k D.1;rw[S];have:=((h.r7 (K.1 C) q f).2) j (D.2 j I U);exact⟨λw=>this.1 (Z _ w),λw=>this.2 (Z _ w)⟩;rw[t.hl]at f;rw[s,A,(t.c q).1];exact h.r8 q f
structure Edit(x:Hp)(i:Nat)(c:Cl):Prop where
 hi:i<x.A.length
 st:(x.c i).st=1
 nd:¬uW x i
 e:c.st=(x.c i).st/\c.kind=(x.c i).kind/\c.T=(x.c i).T/\c.born=(x.c i).born/\c.J=(x.c i).J/\c.to=(x.c i).to
 la:0<=c.U/\c.U<=3
 ln:c.F.length=(x.c i).F.length
 ld:∀k,k<c.F.length->hE x (c.p k).key (¬cN x i k)/\hE x (c.p k).val (¬cN x i k)
 lk:uD x->∀k,k<eZ x i->¬eQ x (c.p k).key/\¬eQ x (c.p k).val
 sp:dH c->uD x->c.J=0->¬(x.E=2\/(i:Int)<x.I)
theorem a2v(x:Hp)(i:Nat)(c:Cl)(a:i<x.A.length)(q:Nat):(hD x i c).c q=if q=i then c else x.c q:=Hp.c_set x i c a q
theorem b1x(x:Hp)(i:Nat)(c:Cl):(hD x i c).A.length=x.A.length:=by simp[hD]
theorem Snd.edit{c:Cl}(h:Snd x)(t:Edit x i c):Snd (hD x i c):=by
 have⟨F,Q,P,J,L,I⟩:=t.e;have z:=a2v x i c t.hi;have b:=b1x x i c;have sm:∀q,((hD x i c).c q).st=(x.c q).st/\((hD x i c).c q).born=(x.c q).born/\((hD x i c).c q).J=(x.c q).J/\((hD x i c).c q).to=(x.c q).to/\((hD x i c).c q).F.length=(x.c q).F.length:=λq=>by
  rw[z q];by_cases e:q=i;rw[if_pos e,e];exact⟨F,J,L,I,t.ln⟩;grind[Hp.c,hD]
 have n:∀q,uW (hD x i c) q↔uW x q:=λq=>by unfold uW;rw[(sm q).1,(sm q).2.2.1];exact Iff.rfl
 have s:∀(y:Wd)(m:Prop),hE x y m->hE (hD x i c) y m:=λy m l=>⟨b▸l.1,λf=>by rw[(sm _).1,n];exact l.2 f⟩
 have G:∀y:Wd,eQ (hD x i c) y->eQ x y:=λy D=>⟨D.1,(sm _).2.2.1▸D.2⟩
 refine⟨?_,⟨λq a=>?_,λq a H k f=>?_⟩,⟨?_,h.r3.2⟩,⟨λj N=>s _ _ (h.r4.1 j N),λq a=>?_⟩,⟨h.r5.1,λq a=>?_,λg A=>?_⟩,⟨h.r6.1,λv=>?_,λv=>?_,h.r6.2.2.2⟩,λB q a=>?_,λq a=>?_⟩;exact⟨h.r1.M,h.r1.B,b▸h.r1.A,b▸h.r1.D,h.r1.born,h.r1.Q,h.r1.S,h.r1.per,h.r1.V,h.r1.E,b▸h.r1.I,h.r1.sub⟩;rw[b]at a;have E:=h.r2.1 q a;by_cases e:q=i
 ·subst e;refine .inr (.inr ⟨(sm q).1▸t.st,?_⟩);rw[z q,if_pos rfl];have S:=t.la;have R:=t.ln;have O:=t.st;obtain o|o|⟨_,o⟩:=E
  ·omega
  omega;grind[a2m,Grw.at,Hp.at,hD,Hp.c]
 unfold cQ;rw[z q,if_neg e];obtain o|⟨o,m⟩|o:=E
 ·exact .inl o
 refine .inr (.inl ⟨o,m.1,m.2.1,m.2.2.1,m.2.2.2.1,(sm _).1▸m.2.2.2.2.1,λv k f=>(sm k).1▸m.2.2.2.2.2 v k f⟩);exact .inr (.inr o);rw[b]at a;rw[(sm q).1]at H;rw[(sm k).1,(sm k).2.1,(sm k).2.2.2.1,(sm q).1,(sm q).2.1,(sm q).2.2.2.1];exact h.r2.2 q a H k f;have u:dZ (hD x i c).A=dZ x.A:=a3k x.A i c t.hi (by rw[Hp.c_eq x i t.hi];unfold cL;rw[F,t.ln]);rw[u];exact h.r3.1;rw[b]at a;rw[z q];by_cases e:q=i
 ·subst e;rw[if_pos rfl];refine⟨λd=>t.nd ((n q).1 d.1),λk f=>⟨λd=>absurd ((n q).1 d) t.nd,λ_=>?_⟩⟩;have:=t.ld k f;exact⟨s _ _ this.1,s _ _ this.2⟩
 rw[if_neg e];have o:=h.r4.2 q a;refine⟨λd=>o.1 ⟨(n q).1 d.1,d.2⟩,λk f=>?_⟩;have p:=o.2 k f;refine⟨λd=>b▸p.1 ((n q).1 d),λd=>?_⟩;have:=p.2 (λM=>d ((n q).2 M));exact⟨s _ _ this.1,s _ _ this.2⟩;rw[b]at a;have o:=h.r5.2.1 q a;unfold a0n at o ⊢;rw[(sm q).2.2.1];exact o;rw[b];exact h.r5.2.2 g A;have r:=h.r6.2.1 v;refine⟨r.1,r.2.1,λA=>?_⟩;rw[(sm _).2.2.2.2];exact r.2.2 A;rw[b,(sm _).1,(sm _).2.2.2.2];exact h.r6.2.2.1 v;rw[b]at a;have o:=h.r7 B q a;have K:eZ (hD x i c) q=eZ x q:=by grind[eZ,hD,Hp.c,sm]
 rw[K,z q];by_cases e:q=i;subst e;rw[if_pos rfl];refine⟨λC=>t.sp C.1 B C.2.1 C.2.2,λk f=>?_⟩;have:=t.lk B k f;exact⟨λw=>this.1 (G _ w),λw=>this.2 (G _ w)⟩;grind[Hp.c,hD];rw[b]at a;rw[(sm q).1];exact h.r8 q a
theorem b5m(x:Hp)(i t:Nat)(c:Cl)(d:i<x.A.length)(g:c.st=(x.c i).st)(f:c.J=(x.c i).J):uK (hD x i c) t=hD (uK x t) i (if eE x t=true/\t=i then yV c else c):=by
 have a:=a2v x i c d t;have b:eE (hD x i c) t=eE x t:=by
  unfold eE whB;rw[a];by_cases e:t=i;rw[if_pos e,e,g,f];rfl;rw[if_neg e];rfl
 unfold uK;rw[b];by_cases q:eE x t=true;rw[if_pos q,if_pos q,a];by_cases e:t=i
 ·rw[if_pos e,if_pos ⟨q,e⟩,e];simp[hD]
 rw[if_neg e,if_neg (λh=>e h.2)];simp only[hD];rw[List.set_comm _ _ (λh=>e h.symm)];rw[if_neg q,if_neg q,if_neg (λh=>q h.1)]
theorem a7h(a:¬uD x)(t:Nat):uK x t=x:=by grind[uD,uK,a5o]
theorem hE.shade{y:Wd}{m:Prop}(h:hE x y m)(t:Nat)(c:t<x.A.length):hE (uK x t) y m:=by
 by_cases a:uD x;refine⟨(cC x t).2.2.2.2.1▸h.1,λb=>?_⟩;rw[(a0g (a6x x t c _)).1];obtain o|o:=h.2 b
 ·exact .inl o
 refine .inr ⟨o.1,λd=>?_⟩;have:=d.1;rw[(cC x t).2.2.2.2.2.1]at this;unfold uD at a;omega;rw[a7h a];exact h
theorem Snd.put(h:Snd x)(i k:Nat)(s:i<x.A.length)(W:(x.c i).st=1)(M:¬uW x i)(Y:k<(x.c i).F.length)(y:Wd)(V:hE x y False)(p:Pr)(Z:(p.key=y/\p.val=((x.c i).p k).val)\/(p.val=y/\p.key=((x.c i).p k).key)):Snd (uX (hD x i { x.c i with F:=(x.c i).F.set k p }) y):=by
 have K:∀j,j<(x.c i).F.length->({ x.c i with F:=(x.c i).F.set k p }:Cl).p j=if j=k then p else (x.c i).p j:=λj b=>by grind[Hp.c,Cl.p,uW,hE,uX,hD]
 have key:∀(z:Hp)(c:Cl),Snd z->z.A.length=x.A.length->(∀q,(z.c q).st=(x.c q).st)->(z.c i).F=(x.c i).F->z.E=x.E->z.I=x.I->z.sub=x.sub->¬uW z i->(∀(u:Wd)(m:Prop),hE x u m->hE z u m)->(uD z->¬eQ z y)->c={ z.c i with F:=(x.c i).F.set k p }->Snd (hD z i c):=λz c C D zs zp R S O E B X n=>by
  have Q:∀j,cN z i j↔cN x i j:=λj=>by unfold cN;rw[R,S,O]
  have H:∀j,c.p j=({ x.c i with F:=(x.c i).F.set k p }:Cl).p j:=λj=>by rw[n];rfl
  have U:0<=(z.c i).U/\(z.c i).U<=3:=by
   have P:=C.r2.1 i (D▸s);have:=zs i;unfold cQ a2m a5d qD a5d at P;omega
  refine C.edit ⟨D▸s,by rw[zs];exact W,E,n▸⟨rfl,rfl,rfl,rfl,rfl,rfl⟩,n▸U,by rw[n,zp];simp,λj b=>?_,λg j b=>?_,λA g J=>?_⟩;have f:j<(x.c i).F.length:=by rw[n]at b;simpa using b
  have o:=((h.r4.2 i s).2 j f).2 M;have N:(¬cN z i j)=(¬cN x i j):=propext (not_congr (Q j));rw[N,H j,K j f];by_cases e:j=k;grind[Grw.at,Hp.at,Hp.c,uW,hE,Cl.p,uX,hD];rw[if_neg e];exact⟨B _ _ o.1,B _ _ o.2⟩;have o:=(C.r7 g i (D▸s)).2 j b;have f:j<(x.c i).F.length:=by
   unfold eZ at b;rw[zp]at b;split at b;exact b;split at b
   ·rename_i t;have r:=(C.r6.2.1 t.1).2.2 t.2.1;have T:z.g0=i:=by unfold Hp.g0;rw[t.2.2];simp
    rw[T,zp]at r;omega
   omega
  have G:(z.c i).p j=(x.c i).p j:=by simp only[Cl.p,zp]
  rw[G]at o;rw[H j,K j f];by_cases e:j=k;grind[Grw.at,Hp.at,Hp.c,uW,hE,Cl.p,uX,hD];rw[if_neg e];exact o;rw[n]at A J;exact λt=>(C.r7 g i (D▸s)).1 ⟨A,J,t⟩
 unfold uX;by_cases e:(y.k == 2)=true;rw[if_pos e];have L:y.k=2:=by simpa using e
 have v:y.a.toNat<x.A.length:=by have:=V.1;unfold uJ at this;omega
 have st:(x.c y.a.toNat).st=1:=by grind[Hp.c,uW,hE,Cl.p,uX,hD]
 rw[b5m x i y.a.toNat { x.c i with F:=(x.c i).F.set k p } s rfl rfl];have I:=a6x x y.a.toNat v;refine key (uK x y.a.toNat) _ (h.shade _ v) (cC x _).2.2.2.2.1 (λq=>(a0g (I q)).1) (a0g (I i)).2.2.2.2.2.2 (cC x _).2.2.2.2.2.1 (cC x _).2.2.2.2.2.2.1 (cC x _).2.2.2.2.2.2.2.1 (λd=>?_) (λu m l=>l.shade _ v) (λg w=>?_) ?_;grind[uD,cC,Grw.at,Hp.at,a7h,Hp.c,uW,hE,Cl.p,uX];have F:uD x:=by unfold uD at g ⊢;rw[(cC x _).2.2.2.2.2.1]at g;exact g
 exact a1t x _ v F st w.2;rw[a7y x _ v i];by_cases q:eE x y.a.toNat=true/\y.a.toNat=i
 ·rw[if_pos q,if_pos ⟨q.1,q.2.symm⟩,q.2];rfl
 rw[if_neg q,if_neg (λh=>q ⟨h.1,h.2.symm⟩)];rw[if_neg e];have L:y.k≠2:=by simpa using e
 exact key x _ h rfl (λ_=>rfl) rfl rfl rfl rfl M (λ_ _ l=>l) (λ_ w=>L w.1) rfl
theorem Snd.want(h:Snd x)(i:Nat)(a:i<x.A.length)(n:(x.c i).st=1)(s:¬uW x i):Snd (uK (hD x i (qE (x.c i) 1)) i):=by
 rw[b5m x i i (qE (x.c i) 1) a rfl rfl];have r:=a7y x i a i;have j:=h.shade i a;have m:=(cC x i).2.2.2.2.1;have p:(if eE x i=true/\i=i then yV (qE (x.c i) 1) else qE (x.c i) 1)=qE ((uK x i).c i) 1:=by grind[eE,yV,qE,Hp.c,uK,uW,hD]
 rw[p];have q:((uK x i).c i).st=1:=by rw[(a0g (a6x x i a i)).1];exact n
 have f:¬uW (uK x i) i:=λd=>by grind[uW,uK,uD,cC,Grw.at,Hp.at,a7h,Hp.c,hD,qE]
 refine j.edit ⟨m▸a,q,f,⟨rfl,rfl,rfl,rfl,rfl,rfl⟩,by refine⟨?_,?_⟩<;>simp[qE],rfl,λk g=>((j.r4.2 i (m▸a)).2 k g).2 f,λb k g=>(j.r7 b i (m▸a)).2 k g,λ_ b e=>?_⟩;have l:uD x:=by unfold uD at b ⊢;rw[(cC x _).2.2.2.2.2.1]at b;exact b
 exact absurd e (a1t x i a l n)
theorem SAt.keptAs[qr]{B:Nat}(h:SAt B w b x ar kr v4 v8 br cB cO bn pb pa pk kn hd vf F vk K role){vk':Value}{K':List Nat}(A:w.ownsRow B 97 1 vk' K'.length (K'.map (ndp bn)))(y:∀q,vk'.ownBlock=some q->vk.ownBlock=some q):
  SAt B (w.setCell (aA b 4017) vk') b x ar kr v4 v8 br cB cO bn pb pa pk kn hd vf F vk' K' role:=by
 have d:∀q,q≠b->(w.setCell (aA b 4017) vk').heap[q]?=w.heap[q]?:=λq t=>kP _ _ _ _ t
 have l:∀o,o≠4017->(w.setCell (aA b 4017) vk').cell? (aA b o)=w.cell? (aA b o):=λo v=>uC _ (.inr (λe=>v e.symm))
 have i:∀q,role q≠0->q≠b:=λq g e=>g (e▸h.sp.b)
 have j:w.heap.size<=(w.setCell (aA b 4017) vk').heap.size:=by simp[World.setCell]
 have s:=d bn (i bn (by rw[h.sp.n];omega));refine⟨⟨h.sb.bx.of λo v=>l o (by omega),h.sb.ha,(l 13 (by omega)).trans h.sb.n13,λk u=>⟨(cOb bn _ s).trans (h.sb.nd k u).1,(cOb bn _ s).trans (h.sb.nd k u).2⟩,⟨(l 14 (by omega)).trans h.sb.fr.hd,?_,uN h.sb.fr.own (λq g=>d q (i q (by rw[h.sp.f q g];omega))),h.sb.fr.apart⟩,h.sb.rg.of λo _ C=>l o (by omega),?_,?_,h.sb.nb.set _ _,⟨h.sb.lo.1,h.sb.lo.2.1,h.sb.lo.2.2.of s j⟩⟩,?_,?_,h.pr.of (λq g z=>d q (i q (by rw[z];omega))) (λ_ _ h=>h)⟩;rw[ki];exact h.sb.fr.hf;exact kM _ _ _ h.sb.k0;exact uN A (λq g=>d q (i q (by rw[h.sp.k q (y q g)];omega)));exact h.rw.same j (λm=>d br (i br (by rw[h.sp.r m];omega))) (λq g=>d (cB q) (i (cB q) (by rw[h.sp.c q g];omega))) (λq g m=>d (pb q) (i (pb q) (by rw[h.sp.p q g m];omega)));exact⟨h.sp.b,h.sp.n,h.sp.r,h.sp.c,h.sp.f,λq g=>h.sp.k q (y q g),h.sp.p⟩
theorem c5a{B:Nat}{e:TypeId}{a:Option Addr}(h:w.ownsRow B e 1 (.slice a (K++[l]).length k) (K++[l]).length ((K++[l]).map (ndp bn))):w.ownsRow B e 1 (.slice a K.length k) K.length (K.map (ndp bn)):=by
 have⟨_,d⟩:=h;refine⟨by simp,?_⟩;obtain⟨_,h0⟩|⟨g,cap,cur,b,e2,e3,e4,e5,e6,e7⟩:=d;simp at h0;injection b with b f c;subst b c;refine .inr ⟨g,_,cur,rfl,e2,e3,by simp at e4;omega,e5,e6,?_⟩;have:=congrArg (List.take K.length) e7;rw[List.take_take]at this;simp at this;simpa using this
theorem a9f(x:Hp)(d:∀i j,i<x.A.length->j<x.A.length->(x.c i).st=1->(x.c j).st=0->i<j):unit4 x=dC x 5 0:=by
 unfold unit4;have⟨a,b,c⟩:=a0i x;rw[if_pos];obtain⟨e,_⟩|⟨f,e,hf,h1,_⟩:=a1y x x.A.length;rw[e];omega;rw[e];obtain l|l:=ky (uE x) x.A.length
 ·have:=d f _ hf l h1 (c l);omega
 omega
theorem d2r(x:Hp)(j l:Nat)(m:j<x.A.length)(p:(x.c j).st=0)(k:∀q,q<j->(x.c q).st≠0)(a:l<x.A.length)(b:(x.c l).st=1)(o:∀i,l<i->i<x.A.length->(x.c i).st≠1)(n:j<l):unit4 x=qK x j l:=by
 have g:a0x x x.A.length=(l:Int):=by
  obtain⟨_,h⟩|⟨f,e,hf,h2,h3⟩:=a1y x x.A.length;exact absurd b (h l a);obtain q|q|q:=nY f l
  ·exact absurd b (h3 l q a)
  rw[e,q];exact absurd h2 (o f q hf)
 unfold unit4;rw[b4t x j m k p,g,if_neg (by omega)];rfl
theorem d2s(h:zQ C x F K)(l:x.E=4)(g:a9e x F F'):zQ C (dC x 5 0) F' [] where
 ho:=g.1
 al:=λi a b=>g.2.2.2 i a b (h.al i a b)
 nn:=λv c=>h.nn v (g.2.2.1 v c)
 le:=by
  have k:=h.le;have f:=g.2.1;have d:kU x=8000:=by unfold kU;rw[if_neg (by omega),if_neg (by omega),if_pos (by omega)]
  have j:kU (dC x 5 0)=8000:=rfl;omega
 k3:=λe=>by simp[dC]at e
 k4:=λe=>by simp[dC]at e
 k0:=λ_ _=>rfl
theorem c8s(h:zQ C x F K)(g:a9e x F F')(t:c1t x F' none):unit4 x=dC x 5 0:=a9f x λi j d a e b=>by
 have:=g.2.2.2 j a b (h.al j a b);have c:F'=[]:=t;rw[c]at this;exact absurd this (by simp)
theorem d2t(h:zQ C x F [])(e:x.E=4):unit4 x=dC x 5 0:=a9f x λi j a b c d=>(h.k4 e).2.2 i a c (by simp) j b d
theorem b9j(h:(K++[l]).Pairwise (· < ·)):∀i,i∈K->i<l:=λi a=>(qI.1 h).2.2 i a l (by simp)
theorem c8t(h:zQ C x F (K++[l]))(m:x.E=4)(g:a9e x F F')(t:c1t x F' (some j))(n:l<j):unit4 x=dC x 5 0:=a9f x λi q d a k b=>by
 have c:=h.k4 m;by_cases e:i∈K++[l];have f:i<=l:=by
  obtain e|e:=mD.1 e;have:=b9j c.1 i e;omega;simp at e;omega
 have:=t.2.2 q (g.2.2.2 q a b (h.al q a b));omega;exact c.2.2 i d k e q a b
theorem b7u(h:zQ C x F K)(g:a9e x F F')(t:c1t x F' (some j)):∀q,q<x.A.length->(x.c q).st=0->j<=q:=λq a b=>by
 have:=t.2.2 q (g.2.2.2 q a b (h.al q a b));omega
theorem moveH_c(x:Hp)(t f:Nat)(b:t<x.A.length)(a:f<x.A.length)(q:Nat):(qK x t f).c q=if q=f then mvC t else if q=t then x.c f else x.c q:=mvd_c x t f b a q
theorem go_move(h:zQ C x F (K++[l]))(s:x.E=4)(g:a9e x F F')(t:c1t x F' (some j))(N:¬l<j):l<x.A.length/\j≠l/\unit4 x=qK x j l/\zQ C (qK x j l) F' K:=by
 have m:=h.k4 s;obtain⟨k,o⟩:=m.2.1 l (by simp);have u:j≠l:=λe=>by have:=t.2.1;rw[e,o]at this;omega
 have y:=b7u h g t;have c:=moveH_c x j l t.1 k;refine⟨k,u,d2r x j l t.1 t.2.1 (λq r e=>by have:=y q (by have:=t.1;omega) e;omega) k o (λi f A H=>?_) (by omega),?_⟩;by_cases e:i∈K++[l]
 ·obtain e|e:=mD.1 e
  ·have:=b9j m.1 i e;omega
  simp at e;omega
 have:=m.2.2 i A H e j t.1 t.2.1;omega;have n:(qK x j l).A.length=x.A.length:=by simp[qK]
 have b:∀i,((qK x j l).c i).st=0->(x.c i).st=0/\i≠j/\i≠l:=λi a=>by
  rw[c i]at a;by_cases d:i=l;rw[if_pos d]at a;simp[mvC]at a;rw[if_neg d]at a;by_cases p:i=j
  ·rw[if_pos p,o]at a;omega
  rw[if_neg p]at a;exact⟨a,p,d⟩
 refine⟨g.1,λi a D=>?_,λv E=>h.nn v (g.2.2.1 v E),?_,λe=>?_,λ_=>⟨?_,λi a=>?_,λi a f I q r J=>?_⟩,λ_ e=>absurd s e⟩;rw[n]at a;exact g.2.2.2 i a (b i D).1 (h.al i a (b i D).1);have f:=h.le;have A:=g.2.1;have d:kU x=8000:=by unfold kU;rw[if_neg (by omega),if_neg (by omega),if_pos (by omega)]
 have w:(qK x j l).E=4:=s;have p:kU (qK x j l)=8000:=by unfold kU;rw[if_neg (by omega),if_neg (by omega),if_pos (by omega)]
 omega;have w:(qK x j l).E=4:=s;omega;exact(qI.1 m.1).1;have:=b9j m.1 i a;obtain⟨G,z⟩:=m.2.1 i (nG _ a);refine⟨by rw[n];exact G,?_⟩;rw[c i,if_neg (by omega),if_neg (λe=>by have:=t.2.1;rw[<-e,z]at this;omega)];exact z;rw[n]at a r;obtain⟨B,M,L⟩:=b q J;rw[c i]at f;by_cases d:i=l
 ·rw[if_pos d]at f;simp[mvC]at f
 rw[if_neg d]at f;by_cases p:i=j
 ·have:=y q r B;omega
 rw[if_neg p]at f;exact m.2.2 i a f (λe=>by obtain e|e:=mD.1 e;exact I e;simp at e;exact d e) q r B
theorem SAt.black[qr]{B:Nat}(h:SAt B w b x ar kr v4 v8 br cB cO bn pb pa pk kn hd vf F vk K role)(i:Nat)(a:i<x.A.length):SAt B (w.setCell (aA (cB i) (cO i+5)) (iv 2)) b { x with A:=x.A.set i (a1w (x.c i)) } ar kr v4 v8 br cB cO bn pb pa pk kn hd vf F vk K role:=by
 refine h.setc a rfl (uZ.setCell (S:=λq=>q=cB i) (uZ.refl _ w) (p:=(aA (cB i) (cO i+5))) rfl _) ?_ (λk n=>uC _ (.inr (by omega))) ((h.rw.nc i a).1.set _ _);have⟨f,g,j,d,m,e,l⟩:=h.rw.s i a;refine⟨?_,?_,?_,?_,?_,kM _ _ _ e,?_⟩;all_goals
  rw[uC _ (.inr (by omega))];assumption
theorem c5b[qr]{B:Nat}(h:SAt B w b x ar kr v4 v8 br cB cO bn pb pa pk kn hd vf F vk K role)(n8:x.A.length<=8000)(hp:x.E=2)(i:Nat)(G:List Int)(y:x.D=(i:Int)::G)(d:i<x.A.length)(z:¬x.sub<((x.c i).F.length:Int))(a:World)(ha:a.heap.size<=B)(hx:Ext a w):
  Calls prog 273 #[.agg #[pP b]] w λe w'=>e=.returned (yY (dW x).E b)/\Hid (SAt B w' b (dW x) ar kr v4 v8 br cB cO bn pb pa pk kn ((hd+1) % 4000) vf F vk K role)/\Ext a w':=by
 have L:((i:Int)).toNat=i:=by omega
 have E:dW x={ x with A:=x.A.set i (a1w (x.c i)),D:=G,sub:=0 }:=by
  unfold dW;rw[y];simp only[L,if_neg z]
 have M:=(hO w).alloc (.cells #[pP b] 211);have QA:=uU (a4k b bn hd i G _ ((show RAt w b bn hd ((i:Int)::G) by have:=h.sb.rg;rw[y]at this;exact this).block (M.block b h.sb.nb.1)));have ae:b<w.heap.size:=h.sb.nb.1;have lo:=h.sb.lo.1;have hn:0<x.A.length:=by omega
 go_in;go_wp21;refine QA.mono ?_;rintro e j ⟨rfl,J⟩;rw[L];have D:j.cell? (aA w.heap.size 0)=some (pP b):=J.keep (by simp[go_sem]);have A:=M.trans J;have f:=h.ext A;have m1:=(f.sb.nd i d).2;have R:=(f.rw.s i d).2.2.2.2.2.1;have p7:=f.rw.p7 i d;have Y:=f.sb.bx.2.2.2.2.2.2.2.1;have f7:=f.sb.nb.2 7;have fc:=(f.rw.nc i d).1.2 (cO i+5);have P:=cLt Y;have ab:=cLt D;have ad:cB i<j.heap.size:=uQ R;have N:¬b=w.heap.size:=by omega
 have T:¬w.heap.size=b:=by omega
 have l:=uU (h.rw.nc i d);have aa:=uU (show ¬b=cB i from λe=>by have h1:=f.sp.b;have h2:=f.sp.c i d;rw[e]at h1;omega);go_wp21;go_quiet (fail);have n:=uU ((f.ext ((hO j).drewN nq)).black i d);obtain⟨m,g⟩:∃W,W=(j.drewN nq).setCell (aA (cB i) (cO i+5)) (iv 2):=⟨_,rfl⟩;rw[<-g]at n;have I:m.cell? (aA w.heap.size 0)=some (pP b):=by
  rw[g,uC _ (.inl (by have:=l.1.1;omega))];exact((hO j).drewN nq).keep D
 have u:=uU (show RAt m b bn hd ((i:Int)::G) by have:=n.sb.rg;rw[<-y];exact this);go_wp21;rw[<-g];refine(c8w b bn hd i G _ u n.sb.nb).mono ?_;rintro e r ⟨rfl,k⟩;have o:=n.rdrop k;have C:=k.2.1;have t0:r.cell? (aA w.heap.size 0)=some (pP b):=(cOb w.heap.size 0 (C.block w.heap.size (cLt I) (by omega))).trans I;have Q:=C.ext (show Ext a m by rw[g];exact((hx.trans A).drewN _).sc (cB i) (cO i+5) (kA ha l.2) _) (λq hq e=>by omega);have Z:=o.sb.bx.2.2.2.2.2.2.2.1;have g7:=o.sb.nb.2 7;have S:=cLt Z;have ac:=cLt t0;go_wp2;go_ret;exact⟨by rw[(show(dW x).E=2 by rw[uH E];exact hp)];rfl,by rw[uH E];exact (o.subs 0),(Q.setCell (p:=(aA b 7)) (show a.heap.size<=b by omega) (iv 0))⟩
theorem c8z[qr]{B:Nat}(h:SAt B w b x ar kr v4 v8 br cB cO bn pb pa pk kn hd vf F vk K role)(o:x.E=3)(i:x.I=x.A.length)(a:World)(q:a.heap.size<=B)(p:Ext a w):
  Calls prog 275 #[.agg #[pP b]] w λe w'=>e=.returned (yY (dD x).E b)/\Hid (SAt B w' b (dD x) ar kr v4 v8 br cB cO bn pb pa pk kn hd vf F vk K role)/\Ext a w':=by
 have E:=uU (show dD x=dC x (3+1) 0 by unfold dD;rw[if_pos i];rfl);have c:=(hO w).alloc (.cells #[pP b] 212);go_in;go_wp21;refine(a4j x.I b x.A.length kn (some (aA bn 0)) _ (c.keep h.sb.bx.2.2.2.2.2.2.1) (c.keep h.sb.n13) (by simpa using i)).mono ?_;rintro e l ⟨rfl,g⟩;have s:l.cell? (aA w.heap.size 0)=some (pP b):=g.keep (by simp[go_sem]);have f:=c.trans g;go_wp21;refine(a7k (h.ext f) 3 o rfl rfl (by omega) a q (p.trans f)).mono ?_;rintro e r ⟨rfl,k,n⟩;go_wp2;go_ret;exact⟨by rw[uH E];rfl,uH E▸uH k,n⟩
theorem b5r(s:Snd x)(i:Nat)(l:x.I=(i:Int))(d:i<x.A.length)(f:(x.c i).st≠1):dD x={ x with I:=(i:Int)+1 }:=by
 have g:x.I.toNat=i:=by omega
 have k:tC (x.c i)=x.c i:=by
  have h:(x.c i).J=0:=by
   obtain⟨_,b,_⟩|⟨_,b⟩|⟨a,_⟩:=s.r2.1 i d;exact b.2.2.2.2.1;exact b.1.2.2.2.2.1;exact absurd a f
  unfold tC;rw[<-h]
 have j:x.A.set i (x.c i)=x.A:=by
  rw[<-Hp.c_eq x i d];simp
 unfold dD;rw[if_neg (by omega),g,if_neg (by simp[whB];intro e;exact absurd e f),k,j,l]
theorem c5c[qr]{B:Nat}(h:SAt B w b x ar kr v4 v8 br cB cO bn pb pa pk kn hd vf F vk K role)(s:Snd x)(I:x.E=3)(i:Nat)(m:x.I=(i:Int))(d:i<x.A.length)(t:((x.c i).st == 1)=false)(a:World)(Q:a.heap.size<=B)(J:Ext a w):
  Calls prog 275 #[.agg #[pP b]] w λe w'=>e=.returned (yY (dD x).E b)/\Hid (SAt B w' b (dD x) ar kr v4 v8 br cB cO bn pb pa pk kn hd vf F vk K role)/\Ext a w':=by
 have E:=b5r s i m d (by simpa using t);have P:=s.ok.n8;have k:=(hO w).alloc (.cells #[pP b] 212);have j:=h.sb.bx.2.2.2.2.2.2.1;rw[m]at j;have N:=h.sb.lo.1;go_in;go_wp21;refine(a0w b x.A.length kn bn i _ (k.keep j) (k.keep h.sb.n13) d).mono ?_;rintro e r ⟨rfl,q⟩;have L:r.cell? (aA w.heap.size 0)=some (pP b):=q.keep (by simp[go_sem]);have n:=k.trans q;have f:=h.ext n;have v:=(f.sb.nd i d).2;have O:=(f.rw.s i d).1;have o:=uU (a5s (x.c i) bn i (cB i) (cO i) r v (f.rw.s i d));rw[(show whB (x.c i)=false by simp[whB,t])]at o;go_wp21;refine o.mono ?_;rintro e u ⟨rfl,g⟩;subst g;have j:u.cell? (aA b 6)=some (iv i):=by have:=f.sb.bx.2.2.2.2.2.2.1;rw[m]at this;exact this
 have M:=f.sb.nb.2 6;go_wp2;go_ret;exact⟨by rw[(show(dD x).E=3 by rw[uH E];exact I)];rfl,by rw[uH E];exact (f.I ((i:Int)+1)),((J.trans n).sc b 6 (show a.heap.size<=b by omega) (iv ((i:Int)+1)))⟩
theorem c2a[qr]{B:Nat}(h:SAt B w b x ar kr v4 v8 br cB cO bn pb pa pk kn hd vf F vk K role)(s:Snd x)(hp:x.E=3)(i:Nat)(y:x.I=(i:Int))(d:i<x.A.length)(R:whB (x.c i)=true)(ho:Ho F)(hl:F.length<=1000000000)(a:World)(ha:a.heap.size<=B)(hx:Ext a w):
  Calls prog 275 #[.agg #[pP b]] w λe w'=>e=.returned (yY (dD x).E b)/\Hid (∃pa' pk' vf' F' role',SAt B w' b (dD x) ar kr v4 v8 br cB cO bn pb pa' pk' kn hd vf' F' vk K role'/\Ho F'/\F'.Perm ((i:Int)::F))/\Ext a w':=by
 have Z:x.I.toNat=i:=by omega
 have E:=uU (show dD x={ x with K:=x.K-(1+(x.c i).F.length),A:=x.A.set i Cl0,I:=(i:Int)+1 } by
  unfold dD;rw[if_neg (by omega),Z,if_pos R,y])
 have EP:=uU (show(dD x).E=3 by rw[uH E];exact hp);have V:=uU (show IntKind.i64.wrap (x.K-(1+((x.c i).F.length:Int)))=x.K-(1+((x.c i).F.length:Int)) by
  have ab:=s.ok.p200 i d;have aa:x.K<=4000:=by have:=s.r3.2;have:=s.r1.M;omega
  have ae:0<=x.K:=by have:=s.r3.1;omega
  rw[nF];omega)
 have LP:=uU (s.ok.p200 i d);have H:=uU h;have n8:=s.ok.n8;have v:=(hO w).alloc (.cells #[pP b] 212);have n:=h.sb.bx.2.2.2.2.2.2.1;rw[y]at n;have Y:=uU (a0w b x.A.length kn bn i _ (v.keep n) (v.keep h.sb.n13) d);have o:=uU v;have af:b<w.heap.size:=h.sb.nb.1;have lo:=h.sb.lo.1;have hn:0<x.A.length:=by omega
 have HI:=uU y;have WH:=uU R;have Q:=uU (h.rw.nc i d);have A:=uU (show ∀q,vf.ownBlock=some q->q<w.heap.size from λq hq=>(h.sb.fr.own.lt q hq).2);have T:=uU (kG ho hl);clear h hp v y n Z R s ho hl;go_in;go_wp21;refine Y.mono ?_;rintro e w1 ⟨rfl,N⟩;have C:w1.cell? (aA w.heap.size 0)=some (pP b):=N.keep (by simp[go_sem]);have S:=uU (o.trans N);have g:=uU (H.ext S);have U:=(g.sb.nd i d).2;have G:=uU (a5s (x.c i) bn i (cB i) (cO i) w1 U (g.rw.s i d));rw[uH WH]at G;clear N o Y;go_wp21;refine G.mono ?_;rintro e j ⟨rfl,D⟩;subst D;have X:=g.sb.bx.2.1;have f1:=g.sb.nb.2 1;have z:=cLt X;have I:=cLt C;have L:¬w.heap.size=b:=by omega
 have P:¬b=w.heap.size:=by omega
 clear U G;go_wp21;go_region_with (go_at_call 156;refine(b1i (x.c i) bn (i*2) (cB i) (cO i) (pa i) (pk i) _ (g.ext (eDr j) |>.sb.nd i d).2 (g.ext (eDr j) |>.rw.p7 i d) (by have:=uH LP;omega)).mono ?_;rintro e w3 ⟨rfl,O⟩;subst O);all_goals
  rw[uH V];obtain⟨r,f⟩:∃W,W=(j.setCell (aA b 1) (iv (x.K-(1+((x.c i).F.length:Int))))).drew:=⟨_,rfl⟩;have H3:=uU (show SAt B r b { x with K:=x.K-(1+((x.c i).F.length:Int)) } ar kr v4 v8 br cB cO bn pb pa pk kn hd vf F vk K role by rw[f];exact(g.usedTo _).ext (eDr _));have X3:=uU (show Ext a r by rw[f];exact((hx.trans S).sc b 1 (show a.heap.size<=b by omega) _).drew);have M:r.cell? (aA w.heap.size 0)=some (pP b):=by rw[f,a0t,uC _ (.inl P)];exact C
  rw[<-f];clear f X f1 C I z;have l:=cLt M;go_wp21;refine(b0k H3 i d T.1 T.2 a ha X3).mono ?_;rintro e t ⟨rfl,J,x4⟩;obtain⟨pa',pk',vf',F',role',u,m,k⟩:=J.1;have r4:t.cell? (aA w.heap.size 0)=some (pP b):=(cOb w.heap.size 0 (J.2 w.heap.size l L (by have:=Q.1.1;omega) (λe=>Nat.lt_irrefl _ (A _ e)))).trans M;have n:t.cell? (aA b 6)=some (iv i):=by have:=u.sb.bx.2.2.2.2.2.2.1;exact this.trans (by rw[uH HI])
  have f6:=u.sb.nb.2 6;have ad:=cLt n;have ac:=cLt r4;have FN:=uU (kG (u.I ((i:Int)+1)) (kG m k));have XN:=uU (x4.sc b 6 (show a.heap.size<=b by omega) (iv ((i:Int)+1)));clear J u M l m k x4;go_wp21;go_ret;exact⟨by rw[uH EP];rfl,by rw[uH E];exact⟨_,_,_,_,_,FN⟩,XN⟩
theorem b2c{α:Type}(f:α->Bool)(d:α):∀(l:List α)(k:Nat),k<(l.filter f).length->∃j,j<l.length/\(l.filter f).getD k d=l.getD j d/\∀s,(k<((l.take s).filter f).length↔j<s)
 | [],k,h=>by simp at h
 | a::l,k,h=>by
  cases fa:f a
  rw[qP (by simp[fa])]at h ⊢;have⟨j,h1,h2,h3⟩:=b2c f d l k h;refine⟨j+1,by simp;omega,by rw[h2];rfl,λs=>?_⟩;cases s with
  | zero=>simp
  | succ s=>
   rw[List.take_succ_cons,qP (by simp[fa]),h3 s];omega
  rw[qR fa]at h ⊢;cases k with
  | zero=>
   refine⟨0,by simp,rfl,λs=>?_⟩;cases s with
   | zero=>simp
   | succ s=>rw[List.take_succ_cons,qR fa];simp
  | succ k=>
   have⟨j,h1,h2,h3⟩:=b2c f d l k (by simp at h;exact h);refine⟨j+1,by simp;omega,by exact h2,λs=>?_⟩;cases s with
   | zero=>simp
   | succ s=>
    rw[List.take_succ_cons,qR fa,mX];have:=h3 s;omega
theorem sum_any(x:Hp)(b r1:Nat)(a:List Nat)(w:World){ac:Nat->Option Addr}(s g:Nat)(h:VNt w b x ar kr ac (some (aA s g)) kn)(W:tV w r1 s (a.map (λi=>g+i*2)))(Y:r1<w.heap.size)(X:x.A.length<=8000)(j:∀i,i<x.A.length->(x.c i).F.length<=200):
  Calls prog 225 #[pP b,.map (some r1)] w λe w'=>∃u:Nat,Hid (e=.returned (iv (u:Int)))/\Hid (u=kH x (λi=>decide (i∈a)) x.A.length)/\Ext w w':=by
 have y:=h.n13;have HV:=uU h;go_in;go_wp21;go_loopw [5,13] (λn i wr=>∃(k u:Nat),k<=x.A.length/\i=iv k/\n=iv u/\Hid (u=kH x (λi=>decide (i∈a)) k)/\Ext w wr) (λ_ i _=>x.A.length-(intOf i).toNat)
 case atStart=>exact⟨0,0,kB _,rfl,rfl,rfl,hO w⟩
 case round=>
  obtain⟨k,u,t,rfl,rfl,r,d⟩:=hrel;have F:u<=201*k:=by have:=uH r;rw[this];exact (λk t=>c1g (p:=λi=>decide (i∈a)) j k t) k t
  by_cases l:k<x.A.length
  ·have y:=(HV.ext d).n13;have hl:=j k l;have Q:=i0N k;have B:(k:Int)<(x.A.length:Int):=by omega
   have V:=W.block (d.block r1 Y);go_wp21;refine(a8c r1 s (g+k*2) _ _ V).mono ?_;rintro e w1 ⟨rfl,C⟩;have q:=d.trans C;by_cases m:k∈a
   ·have E:decide (g+k*2∈a.map (λi=>g+i*2))=true:=decide_eq_true (a5v.2 m);rw[E];have z:=uU (show u+(1+(x.c k).F.length)=kH x (λi=>decide (i∈a)) (k+1) by have:=uH r;simp only[kH,decide_eq_true m];simp;omega);obtain⟨b',o,D,O,I,p0,p1,p2,p3,p4,p5,p6,S,J,P⟩:=(HV.ext q).H.cell k l;have⟨T,K,bc,oc,R,A,m0,L⟩:=(HV.ext q).N k l;rw[I]at A;cases R;cases A;go_wp21;refine(b1i (x.c k) s (g+k*2) _ _ D O _ L S J).mono ?_;rintro e Z ⟨rfl,rfl⟩;go_wp2;go_roundw
    case rel=>exact⟨k+1,u+(1+(x.c k).F.length),by omega,by go_num,by go_num,z,q⟩
    simp[intOf];omega
   have E:decide (g+k*2∈a.map (λi=>g+i*2))=false:=decide_eq_false (λf=>m (a5v.1 f));rw[E];go_wp2;go_roundw
   case rel=>exact⟨k+1,u,by omega,by go_num,rfl,(show u=kH x (λi=>decide (i∈a)) (k+1) by have:=uH r;simp only[kH,decide_eq_false m];simp;exact this),q⟩
   simp[intOf];omega
  have v:k=x.A.length:=by omega
  go_wp2;go_ret;exact⟨u,rfl,(show u=kH x (λi=>decide (i∈a)) x.A.length by have:=uH r;rw[v]at this;exact this),d⟩
theorem c5p(b x p n:Nat)(G:List Int)(w:World)(h:RAt w b x p G)(A:∀i,i<n->w.cell? (aA x (i*2))=some (iv i))(B:∀g,g∈G->0<=g/\g<n):
  Calls prog 57 #[pQ b 15] w λe w'=>e=.returned (sS w.heap.size G.length G.length)/\SlI w' (sS w.heap.size G.length G.length) G/\Nf1 w.heap.size w'/\Ext w w':=by
 have C:=h.r1;have U:=h.hl;have H:=uU h;have D:=uU A;have E:=uU B;have⟨z,s⟩:=mkInts G.length (by omega) w;clear h A B;go_in;go_wp21;go_loopw [12] (λi wr=>∃(k:Nat),k<=G.length/\i=iv k/\Hid ((∀j (c:j<G.length),j<k->a8e wr w.heap.size (0+j*1) G[j])/\(∀j,j<G.length*1->yQ wr w.heap.size j)/\Ext w wr/\Nf1 w.heap.size wr)) (λi _=>G.length-(intOf i).toNat)
 case atStart=>exact⟨0,kB _,rfl,(λj _ h=>by omega),(λj c=>a7u _ _ _ _ _ (by omega)),(hO w).alloc _,Nf1.made _ _ _ _⟩
 case round=>
  clear s C;obtain⟨k,y,rfl,a⟩:=hrel;by_cases f:k<G.length
  ·have l:=a.2.2.1;have⟨m,o⟩:=obE ((p+k) % 4000);have J:m<4000:=o▸mT _ (by omega);have T:((p:Int)+(k:Int)).tmod 4000=(m:Int):=by have:=b5n (p+k);rw[<-o]at this;simpa using this
   have W:=i0N m;have M:(m:Int)<4000:=by omega
   have I:=uH E G[k] (k7 f);have⟨j,c⟩:∃j:Nat,G[k]=(j:Int):=⟨G[k].toNat,by omega⟩;have q:j<n:=by omega
   have N:=l.keep H.r0;have Q:=H.h0;have t:=l.keep (H.rg k f);rw[<-o,c]at t;have t:wr.cell? (aA b (15+m))=some (pQ x (j*2)):=t;have P:=l.keep (D j q);have R:=c9y (w:=w) (wr:=wr) (xs:=G) (k:=k) f a.1 a.2.1 l a.2.2.2;rw[c]at R;have⟨⟨u,O⟩,X⟩:=a.2.1 k (by omega);have V:=i0N k;have S:(k:Int)<(G.length:Int):=by omega
   have v:¬w.heap.size=b:=λe=>by have:=uQ H.r0;simp only at this;omega
   have F:¬b=w.heap.size:=λe=>v e.symm
   clear I c o;go_wp21;go_region;all_goals
    go_wp21;go_roundw
    case rel=>
     have d:=(hO (wr.setCell (aA w.heap.size k) (iv j))).drew;exact⟨k+1,by omega,by go_num,λj c y=>(R.1 j c y).ext d,λj c=>(R.2.1 j c).ext d,R.2.2.1.drew,R.2.2.2.ext d⟩
    simp[intOf];omega
  have r:k=G.length:=by omega
  clear r;go_wp21;go_ret;exact⟨rfl,(show SlI wr (sS w.heap.size G.length G.length) G from⟨_,_,rfl,by omega,λi K=>⟨_,_,rfl,a.1 i K (by omega)⟩⟩),a.2.2.2,a.2.2.1⟩
theorem uZ.setNew{a:World}(h:uZ S a w){p:Addr}(d:a.heap.size<=p.block)(u:Value):uZ S a (w.setCell p u):=
 ⟨h.os,h.tape,h.output,by have:=h.size;simpa[World.setCell]using this,λk b c=>(kP _ _ _ _ (by omega)).trans (h.block k b c)⟩
structure Tdl(w1 wr:World)(x:Hp)(t bN:Nat)(vr vc vg:Value)(pa:Nat->Option Addr)(pk:Nat->Nat)(k:Nat):Prop where
 bx:cK wr t x vr vc vg
 s:∀q,q<x.A.length->q<k->S7 wr bN (q*8) (x.c q)/\wr.cell? ⟨bN,q*8+7,none⟩=some (.slice (pa q) (x.c q).F.length (pk q))
 o:∀j,j<x.A.length*8->yQ wr bN j
 nf:Nf1 bN wr
 on:uZ (λq=>q=t) w1 wr
 lt:t<w1.heap.size/\w1.heap.size<=bN
theorem Tdl.step{w1 wr:World}{t bN:Nat}{vr vc:Value}(h:Tdl w1 wr x t bN vr vc vg pa pk k)(C:k<x.A.length):
  Tdl w1 ((((((((wr.setCell (aA bN (k*8)) (iv (x.c k).st)).setCell (aA bN (k*8+1)) (iv (x.c k).kind)).setCell (aA bN (k*8+2)) (iv (x.c k).T)).setCell (aA bN (k*8+3)) (iv (x.c k).U)).setCell (aA bN (k*8+4)) (iv (x.c k).born)).setCell (aA bN (k*8+5)) (iv (x.c k).J)).setCell (aA bN (k*8+6)) (iv (x.c k).to)).setCell (aA bN (k*8+7)) (.slice (pa k) (x.c k).F.length (pk k))).drew x t bN vr vc vg pa pk (k+1):=by
 have a:=h.lt;have n:yQ wr bN (k*8):=h.o (k*8) (by omega);have u:=h.o (k*8+1) (by omega);have A:=h.o (k*8+2) (by omega);have z:=h.o (k*8+3) (by omega);have v:=h.o (k*8+4) (by omega);have m:=h.o (k*8+5) (by omega);have y:=h.o (k*8+6) (by omega);have w:=h.o (k*8+7) (by omega);have d:∀b o,(b≠bN\/o<k*8\/k*8+8<=o)->(((((((((wr.setCell (aA bN (k*8)) (iv (x.c k).st)).setCell (aA bN (k*8+1)) (iv (x.c k).kind)).setCell (aA bN (k*8+2)) (iv (x.c k).T)).setCell (aA bN (k*8+3)) (iv (x.c k).U)).setCell (aA bN (k*8+4)) (iv (x.c k).born)).setCell (aA bN (k*8+5)) (iv (x.c k).J)).setCell (aA bN (k*8+6)) (iv (x.c k).to)).setCell (aA bN (k*8+7)) (.slice (pa k) (x.c k).F.length (pk k))).drew).cell? (aA b o)=wr.cell? (aA b o):=λb o i=>by
  rw[a0t,uC _ (by omega),uC _ (by omega),uC _ (by omega),uC _ (by omega),uC _ (by omega),uC _ (by omega),uC _ (by omega),uC _ (by omega)]
 have f:∀b o,yQ wr b o->yQ ((((((((wr.setCell (aA bN (k*8)) (iv (x.c k).st)).setCell (aA bN (k*8+1)) (iv (x.c k).kind)).setCell (aA bN (k*8+2)) (iv (x.c k).T)).setCell (aA bN (k*8+3)) (iv (x.c k).U)).setCell (aA bN (k*8+4)) (iv (x.c k).born)).setCell (aA bN (k*8+5)) (iv (x.c k).J)).setCell (aA bN (k*8+6)) (iv (x.c k).to)).setCell (aA bN (k*8+7)) (.slice (pa k) (x.c k).F.length (pk k))).drew b o:=λb o i=>((((((((i.set _ _).set _ _).set _ _).set _ _).set _ _).set _ _).set _ _).set _ _).ext (eDr _)
 refine⟨h.bx.of λo _=>d t o (.inl (by omega)),λq r B=>?_,λj l=>f bN j (h.o j l),((((((((h.nf.set _ _).set _ _).set _ _).set _ _).set _ _).set _ _).set _ _).set _ _).ext (eDr _),?_,a⟩;by_cases e:q=k
 ·subst e;refine⟨⟨?_,?_,?_,?_,?_,?_,?_⟩,?_⟩
  ·rw[a0t,uC _ (by omega),uC _ (by omega),uC _ (by omega),uC _ (by omega),uC _ (by omega),uC _ (by omega),uC _ (by omega)];exact n.same _
  rw[a0t,uC _ (by omega),uC _ (by omega),uC _ (by omega),uC _ (by omega),uC _ (by omega),uC _ (by omega)];exact(u.set _ _).same _;rw[a0t,uC _ (by omega),uC _ (by omega),uC _ (by omega),uC _ (by omega),uC _ (by omega)];exact((A.set _ _).set _ _).same _;rw[a0t,uC _ (by omega),uC _ (by omega),uC _ (by omega),uC _ (by omega)];exact(((z.set _ _).set _ _).set _ _).same _;rw[a0t,uC _ (by omega),uC _ (by omega),uC _ (by omega)];exact((((v.set _ _).set _ _).set _ _).set _ _).same _;rw[a0t,uC _ (by omega),uC _ (by omega)];exact(((((m.set _ _).set _ _).set _ _).set _ _).set _ _).same _;rw[a0t,uC _ (by omega)];exact((((((y.set _ _).set _ _).set _ _).set _ _).set _ _).set _ _).same _;rw[a0t];exact(((((((w.set _ _).set _ _).set _ _).set _ _).set _ _).set _ _).set _ _).same _
 have g:=h.s q r (by omega);exact⟨g.1.of λj l=>d bN _ (.inr (by omega)),(d bN _ (.inr (by omega))).trans g.2⟩;exact((((((((h.on.setNew (p:=(aA bN (k*8))) a.2 _).setNew (p:=(aA bN (k*8+1))) a.2 _).setNew (p:=(aA bN (k*8+2))) a.2 _).setNew (p:=(aA bN (k*8+3))) a.2 _).setNew (p:=(aA bN (k*8+4))) a.2 _).setNew (p:=(aA bN (k*8+5))) a.2 _).setNew (p:=(aA bN (k*8+6))) a.2 _).setNew (p:=(aA bN (k*8+7))) a.2 _).drew
theorem c3e[qr]{B:Nat}{a4:Option Addr}{n4 k4:Nat}{a8:Option Addr}{n8 k8:Nat}(w:World)
  (h:SAt B w b x ar kr (.slice a4 n4 k4) (.slice a8 n8 k8) br cB cO bn pb pa pk kn hd vf F vk K role) (hG:∀g,g∈x.D->0<=g/\g<x.A.length) (hr:0<x.B.length) (l:x.B.length<=100/\x.A.length<=8000/\x.D.length<=8000/\∀q,q<x.A.length->(x.c q).F.length<=200) (hB:B<=w.heap.size) :
  Calls prog 23 #[pP b] w λe w'=>∃bcN bgN,e=.returned (x.v (sS br x.B.length kr) (sS bcN x.A.length x.A.length) (sS bgN x.D.length x.D.length))/\Hid (b0u B w'.heap.size w' x br kr bcN x.A.length bgN x.D.length pb pa pk)/\Ext w w':=by
 have H:=uU h;obtain⟨c0,c1,c2,c3,c4,c5,c6,c7,c8,c9,ah,al,ak⟩:=h.sb.bx;rw[h.sb.ha hr]at c3;have hb:=h.sb.nb.1;have HG:=uU hG;have HL:=uU l;have T:=(eAl w (oH0)).alloc (oHp x (sS br x.B.length kr) (.slice a4 n4 k4) (.slice a8 n8 k8));have B1:=cK.new (w.alloc (oH0)) x (sS br x.B.length kr) (.slice a4 n4 k4) (.slice a8 n8 k8) 27;have ab:(w.alloc (oH0)).heap.size=w.heap.size+1:=by simp
 rw[ab]at B1;have D:((w.alloc (oH0)).alloc (oHp x (sS br x.B.length kr) (.slice a4 n4 k4) (.slice a8 n8 k8))).heap.size=w.heap.size+2:=by simp
 go_in;go_wp21;refine(c5p b bn hd x.A.length x.D _ (H.ext T).sb.rg (λi hi=>((H.ext T).sb.nd i hi).1) HG).mono ?_;rintro e m ⟨rfl,M,G,N⟩;rw[D]at M G ⊢;have ag:w.heap.size+2<m.heap.size:=G.1;have E:=uU (B1.ext N);have X1:=T.trans N;have GS:=uU (kG M G);have d8:=E.2.2.2.2.2.2.2.2.1;have d4:=E.2.2.2.2.1;have fz:∀o,m.frozen? (aA (w.heap.size+1) o)=false:=λo=>((cE N).2 (w.heap.size+1) o (by rw[D];omega)).trans (by simp[go_sem])
 have rc:=uU (show ∀o v,((w.alloc (oH0)).alloc (oHp x (sS br x.B.length kr) (.slice a4 n4 k4) (.slice a8 n8 k8))).cell? (aA w.heap.size o)=some v->m.cell? (aA w.heap.size o)=some v from λo v h=>N.keep h);have RF:=uU (show ∀o,m.frozen? (aA w.heap.size o)=false from λo=>((cE N).2 w.heap.size o (by rw[D];omega)).trans (by simp[go_sem]));have Q:=(H.ext X1).sb.n13;obtain⟨z,U⟩:=mkCells x.A.length (by omega) (m.setCell (aA (w.heap.size+1) 8) (sS (w.heap.size+2) x.D.length x.D.length));have u:(m.setCell (aA (w.heap.size+1) 8) (sS (w.heap.size+2) x.D.length x.D.length)).heap.size=m.heap.size:=by simp[World.setCell]
 rw[u]at U;have aj:b<m.heap.size:=by omega
 have ac:w.heap.size+1<m.heap.size:=by omega
 go_wp21;have ST:=uU (show Tdl m (((m.setCell (aA (w.heap.size+1) 8) (sS (w.heap.size+2) x.D.length x.D.length)).setCell (aA (w.heap.size+1) 4) (sS m.heap.size x.A.length x.A.length)).alloc (.cells (madeCells z (x.A.length*8)) 51)) x (w.heap.size+1) m.heap.size (sS br x.B.length kr) (sS m.heap.size x.A.length x.A.length) (sS (w.heap.size+2) x.D.length x.D.length) pa pk 0 from by
  have hs:((m.setCell (aA (w.heap.size+1) 8) (sS (w.heap.size+2) x.D.length x.D.length)).setCell (aA (w.heap.size+1) 4) (sS m.heap.size x.A.length x.A.length)).heap.size=m.heap.size:=by simp[World.setCell]
  refine⟨((E.set8 _).set4 _).ext (eAl _ _),λq _ h=>by omega,λj hj=>?_,?_,?_,⟨ac,hT _⟩⟩;have:=a7u ((m.setCell (aA (w.heap.size+1) 8) (sS (w.heap.size+2) x.D.length x.D.length)).setCell (aA (w.heap.size+1) 4) (sS m.heap.size x.A.length x.A.length)) z (x.A.length*8) 51 j hj;rw[hs]at this;exact this;have:=Nf1.made ((m.setCell (aA (w.heap.size+1) 8) (sS (w.heap.size+2) x.D.length x.D.length)).setCell (aA (w.heap.size+1) 4) (sS m.heap.size x.A.length x.A.length)) z (x.A.length*8) 51;rw[hs]at this;exact this;exact(uZ.setCell (S:=λq=>q=w.heap.size+1) (tJ m (w.heap.size+1) 8 _) (p:=(aA (w.heap.size+1) 4)) rfl _).trans (uZ.of_ext (eAl _ _)))
 go_loopw [29] (λi wr=>∃(k:Nat),k<=x.A.length/\i=iv k/\Hid (Tdl m wr x (w.heap.size+1) m.heap.size (sS br x.B.length kr) (sS m.heap.size x.A.length x.A.length) (sS (w.heap.size+2) x.D.length x.D.length) pa pk k)) (λi _=>x.A.length-(intOf i).toNat)
 case atStart=>exact⟨0,kB _,rfl,ST⟩
 case round=>
  obtain⟨k,Y,rfl,d⟩:=hrel;have C:Ext w wr:=d.on.ext X1 (λq r e=>by omega);by_cases A:k<x.A.length
  ·have R:=uU (d.step A);have c4:=d.bx.2.2.2.2.1;have Q:=(H.ext C).sb.n13;obtain⟨m0,m1⟩:=(H.ext C).sb.nd k A;obtain⟨p0,p1,p2,p3,p4,p5,p6⟩:=(H.ext C).rw.s k A;have p7:=(H.ext C).rw.p7 k A;obtain⟨⟨u0,o0⟩,f0⟩:yQ wr m.heap.size (k*8):=d.o (k*8) (by omega);obtain⟨⟨u1,o1⟩,f1⟩:=d.o (k*8+1) (by omega);obtain⟨⟨u2,o2⟩,f2⟩:=d.o (k*8+2) (by omega);obtain⟨⟨u3,o3⟩,f3⟩:=d.o (k*8+3) (by omega);obtain⟨⟨u4,o4⟩,f4⟩:=d.o (k*8+4) (by omega);obtain⟨⟨u5,o5⟩,f5⟩:=d.o (k*8+5) (by omega);obtain⟨⟨u6,o6⟩,f6⟩:=d.o (k*8+6) (by omega);obtain⟨⟨u7,o7⟩,f7⟩:=d.o (k*8+7) (by omega);have k0:=i0N k;have k1:(k:Int)<(x.A.length:Int):=by omega
   go_wp21;go_region;all_goals
    go_wp2;go_roundw
    case rel=>exact⟨k+1,by omega,by go_num,R⟩
    simp[intOf];omega
  have Z:k=x.A.length:=by omega
  subst Z;have WB:∀q,q<m.heap.size->q≠w.heap.size+1->wr.heap[q]?=m.heap[q]?:=λq r I=>d.on.block q r I
  have SR:=uU (H.ext C);have GR:=uU (show SlI wr (sS (w.heap.size+2) x.D.length x.D.length) x.D/\Nf1 (w.heap.size+2) wr from by
   have e:=WB (w.heap.size+2) (by omega) (by omega);refine⟨yH.mono2 GS.1 λb' o n c z o' y hy=>?_,uY GS.2 e d.on.size⟩;simp only[Value.slice.injEq,Option.some.injEq,Addr.mk.injEq]at z;obtain⟨⟨rfl,_,_⟩,_,_⟩:=z;exact(cOb (w.heap.size+2) o' e).trans hy)
  have RW:=uU (show ∀W,uZ (λq=>q=w.heap.size) wr W->b0u B W.heap.size W x br kr m.heap.size x.A.length (w.heap.size+2) x.D.length pb pa pk from λW o=>by
   have rw:=SR.rw;have P:=H.rw.nr hr;have lp:=λq r J=>H.rw.pl q r J
   have u:=o.size;have L:=d.nf.1;have t:=rw.only o (λJ e=>by have:=P.1.1;omega) (λq r e=>by have:=(H.rw.nc q r).1.1;omega) (λq r J e=>by have:=(lp q r J).2.1.1;omega);refine⟨t.slW kr (λ_=>rfl) (by have:=HL.1;omega),λq r=>?_,λq r=>?_,?_,λq r=>?_,λq r J=>?_,(t.nr hr).1,?_,?_,⟨by have:=P.1.1;omega,by have:=P.1.1;omega,by omega⟩,λq q' r O I h1 h2=>t.dp q q' r O I (t.pw r h1) (t.pw O h2),⟨⟨P.2,by have:=P.1.1;have:=C.size;omega⟩,⟨by omega,by omega⟩,⟨by omega,by omega⟩⟩,HL,t.kp⟩;exact(d.s q r r).1.of λj _=>cOb m.heap.size _ (o.block m.heap.size L (by omega))
   refine⟨_,_,rfl,by have:=HL.2.2.2 q r;omega,λk Y=>⟨pb q,0,(t.pl q r (t.pw r (by omega))).1,?_⟩⟩;rw[kO,Cl.p_eq _ _ Y];exact t.p q r k Y;refine yH.mono2 GR.1 λb' o2 n c z o' y hy=>?_
   simp only[Value.slice.injEq,Option.some.injEq,Addr.mk.injEq]at z;obtain⟨⟨rfl,_,_⟩,_,_⟩:=z;exact o.keep (by omega) hy;exact o.keep (by omega) (d.s q r r).2;obtain⟨a1,a2,a3,a4⟩:=t.pl q r (t.pw r J);have:=(lp q r (t.pw r J)).2.1.1;exact⟨a1,a2.n1,⟨a3.1,by omega,by omega⟩,a4,by have:=C.size;omega⟩;exact uY d.nf (o.block m.heap.size L (by omega)) u;exact uY GR.2 (o.block (w.heap.size+2) GR.2.1 (by omega)) u)
  have f:∀o v,((w.alloc (oH0)).alloc (oHp x (sS br x.B.length kr) (.slice a4 n4 k4) (.slice a8 n8 k8))).cell? (aA w.heap.size o)=some v->wr.cell? (aA w.heap.size o)=some v:=λo v h=>(cOb w.heap.size o (WB w.heap.size (by omega) (by omega))).trans (rc o v h)
  have ai:∀o,wr.frozen? (aA w.heap.size o)=false:=λo=>(fOb w.heap.size o (WB w.heap.size (by omega) (by omega))).trans (RF o)
  have r0:=f 0 (iv 0) (by simp[go_sem]);have r1:=f 1 (iv 0) (by simp[go_sem]);have r2:=f 2 (iv 0) (by simp[go_sem]);have r3:=f 3 (.slice none 0 0) (by simp[go_sem]);have r4:=f 4 (.slice none 0 0) (by simp[go_sem]);have r5:=f 5 (iv 0) (by simp[go_sem]);have r6:=f 6 (iv 0) (by simp[go_sem]);have r7:=f 7 (iv 0) (by simp[go_sem]);have r8:=f 8 (.slice none 0 0) (by simp[go_sem]);have r9:=f 9 (iv 0) (by simp[go_sem]);have aa:=f 10 (iv 0) (by simp[go_sem]);have X:=f 11 (iv 0) (by simp[go_sem]);have V:=f 12 (iv 0) (by simp[go_sem]);obtain⟨b0,b1,b2,b3,b4,b5,b6,b7,b8,b9,af,ae,ad⟩:=d.bx;go_wp2;refine bodyPost_ret (v:=x.v (sS br x.B.length kr) (sS m.heap.size x.A.length x.A.length) (sS (w.heap.size+2) x.D.length x.D.length)) (by simp[results,results23,go_sem,r0,r1,r2,r3,r4,r5,r6,r7,r8,r9,aa,X,V]) rfl ⟨_,_,rfl,?_⟩;refine(λ(F:uZ (λq=>q=w.heap.size) wr _)=>⟨uH RW _ F,F.ext C (λq r e=>by omega)⟩) ?_;repeat (first|refine uZ.setCell ?_ (by simp) _|exact uZ.refl _ _)
theorem a1q.nm{c:Nat}{nm:Int}(h:a1q x f c y cd nm R):nm=0:=by
 obtain h|h|h:=h;exact h.2.2.2;exact h.2.2.2.2;exact h.2.2.2.2
theorem a0z.nm{nm:Int}(h:a0z x f y cd nm R)(b:cd≠0)(a:∀i,R i->cd≠0->nm=0):nm=0:=by
 obtain h|h:=h;exact h.2.2.2;exact a _ h.2 b
theorem DoR.nm{a c:Nat}{nm:Int}(h:DoR x a b c n y cd nm k)(d:cd≠0):nm=0:=by
 unfold DoR at h;split at h;exact h.1;exact absurd h.2.1 d;exact absurd h.2.1 d;exact absurd h.2.1 d;exact h.nm;exact h.nm;exact h.nm;exact h.nm;exact h.nm d (λi r _=>r.1);exact h.nm d (λi r q=>absurd r.2.1 q);exact h.nm d (λi r q=>absurd r.2.1 q);exact h.nm d (λi r q=>absurd r.2.1 q);exact absurd h.2.1 d;exact absurd h.2.1 d;obtain e|e:=h.2
 ·exact e.2.2
 exact absurd e.2.1 d;exact h.nm d (λi r q=>absurd r.2.1 q);exact h.nm d (λi r q=>absurd r.2.1 q);exact absurd h.1 d;exact absurd h.1 d;exact absurd h.2.1 d;exact absurd h.2.1 d;exact absurd h.1 d;exact absurd h.2.1 d;exact absurd h.1 d;exact h.elim
