import Derived.Test.YtolmnenlnpbcfaaGreatDoorPv
import Derived.Test.YtolmnenlnpbcfaaGreatDoorBk
import Derived.Test.YtolmnenlnpbcfaaGreatDoorSpecI
import Derived.Test.YtolmnenlnpbcfaaGreatDoorPe
set_option maxRecDepth 100000
set_option maxHeartbeats 4000000
namespace Go.Proofs.YtolmnenlnpbcfaaGreatDoor
open Go.RowKit Tryz
attribute [local go_sem ↓] Go.wp_at_zero Go.wp_at_succ
variable{x:Hp}{B kr br g b kn bn hd kc bc qb n:Nat}{w w0 w' W W':World}{ar ac:Option Addr}{pa:Nat->Option Addr}{pk pb role cB cO:Nat->Nat}{vf vk v4 v8 vg:Value}{F:List Int}{K:List Nat}{S:Nat->Prop}
theorem a5q[qd](B g:Nat)(x:Hp)(w:World)(h:GOk B w g x)(s:Snd x)(A:x.E≠0)(a:World)(j:a.heap.size<=B)(i:Ext a w):
  Calls prog 52 #[pP g] w λe w'=>e=.returned (.tuple #[])/\GOk B w' g (dN x)/\Ext a w':=by
 have⟨_,_,f,_,z,v⟩:=h.box;have t:B<=w.heap.size:=by omega
 have u:x.E=1\/x.E=2\/x.E=3\/x.E=4\/x.E=5\/x.E=6:=by have:=s.r1.E;omega
 have l:x.E=1->Calls prog 110 #[pP g] w λe w'=>e=.returned (.tuple #[])/\GOk B w' g (dN x)/\Ext a w':=λe=>by
  have:dN x=dW x:=by unfold dN;rw[if_pos e]
  rw[this];exact c1c B g x w h s a j i t
 have q:x.E=2->Calls prog 111 #[pP g] w λe w'=>e=.returned (.tuple #[])/\GOk B w' g (dN x)/\Ext a w':=λe=>by
  have:dN x=dX x:=by unfold dN;rw[if_neg (by omega),if_pos e]
  rw[this];exact c5i B g x w h s e a j i
 have m:x.E=3->Calls prog 112 #[pP g] w λe w'=>e=.returned (.tuple #[])/\GOk B w' g (dN x)/\Ext a w':=λe=>by
  have:dN x=dZ x:=by unfold dN;rw[if_neg (by omega),if_neg (by omega),if_pos e]
  rw[this];exact c1m B g x w h s a j i
 have n:x.E=4->Calls prog 113 #[pP g] w λe w'=>e=.returned (.tuple #[])/\GOk B w' g (dN x)/\Ext a w':=λe=>by
  have:dN x=unit4 x:=by unfold dN;rw[if_neg (by omega),if_neg (by omega),if_neg (by omega),if_pos e]
  rw[this];exact c5g B g x w h s a j i
 have o:x.E=5->Calls prog 114 #[pP g] w λe w'=>e=.returned (.tuple #[])/\GOk B w' g (dN x)/\Ext a w':=λe=>by
  have:dN x=dY x:=by unfold dN;rw[if_neg (by omega),if_neg (by omega),if_neg (by omega),if_neg (by omega),if_pos e]
  rw[this];exact c5h B g x w h s e a j i
 have p:x.E=6->Calls prog 115 #[pP g] w λe w'=>e=.returned (.tuple #[])/\GOk B w' g (dN x)/\Ext a w':=λe=>by
  have:dN x=dL x:=by unfold dN;rw[if_neg (by omega),if_neg (by omega),if_neg (by omega),if_neg (by omega),if_neg (by omega),if_pos e]
  rw[this];exact c1h B g x w h s a j i
 have⟨y,r⟩:=obE (dN x);rw[<-r]at l q m n o p ⊢;obtain e|e|e|e|e|e:=u;focus
  rw[e]at f;have Q:=uU (l e)
 rotate_left
 focus
  rw[e]at f;have Q:=uU (q e)
 rotate_left
 focus
  rw[e]at f;have Q:=uU (m e)
 rotate_left
 focus
  rw[e]at f;have Q:=uU (n e)
 rotate_left
 focus
  rw[e]at f;have Q:=uU (o e)
 rotate_left
 focus
  rw[e]at f;have Q:=uU (p e)
 all_goals
  go_in;go_wp21;refine Q.mono ?_;rintro e k ⟨rfl,d,b⟩;go_wp21;go_end0;exact⟨rfl,d,b⟩
theorem a4m[qd](B g:Nat)(x:Hp)(w:World)(h:GOk B w g x)(a:World)(j:a.heap.size<=B)(i:Ext a w):
  Calls prog 51 #[pP g] w λe w'=>e=.returned (.tuple #[])/\GOk B w' g (dC x 1 0)/\Ext a w':=by
 go_in;go_wp21;refine(a0w B g x 1 0 _ h a j i).mono ?_;rintro e k ⟨rfl,c,f⟩;go_wp21;go_end0;exact⟨rfl,c,f⟩
theorem c1n[qd](B g:Nat)(x:Hp)(n:Nat)(w:World)(h:GOk B w g x)(s:Snd x)(E:n≠0)(K:n<=100000)(C:x.E≠0)(a:World)(F:a.heap.size<=B)(D:Ext a w):
  Calls prog 47 #[pP g,iv n] w λe w'=>∃k:Nat,e=.returned (iv k)/\Hid (a2j x n k)/\GOk B w' g (itU k x)/\Ext a w':=by
 have⟨_,_,y,_,I,o⟩:=h.box;have J:((n:Int) == 0)=false:=by simpa using E
 have G:(x.E == 0)=false:=by simpa using C
 go_in;go_wp21;go_loopw [5] (λd wr=>∃k:Nat,k<=n/\d=iv k/\Hid (kQ x k)/\Hid (GOk B wr g (itU k x))/\Ext a wr) (λd _=>n-(intOf d).toNat)
 case atStart=>exact⟨0,kB _,rfl,kQ.zero _,h,D⟩
 case round=>
  obtain⟨k,l,rfl,j,f,b⟩:=hrel;have⟨_,_,y,_,_,o⟩:=f.box;cases q:((itU k x).E == 0);focus
   have r:((itU k x).E != 0)=true:=by simpa using q
   have i:=uU (show(itU k x).E≠0 by simpa using q);by_cases m:k<n;have p:(k:Int)<(n:Int):=by omega
   go_wp21;refine(a5q B g _ _ f (s.itU k) i a F b).mono ?_;rintro e H ⟨rfl,A,v⟩;go_wp2;go_roundw
   case rel=>exact⟨k+1,by omega,by go_num,(j.succ i),A,v⟩
   simp[intOf];omega
  rotate_left
  focus
   have r:((itU k x).E != 0)=false:=by simpa using q
   by_cases m:k<n;have p:(k:Int)<(n:Int):=by omega
   go_wp2;go_ret;exact⟨k,rfl,⟨j,l,.inr (show(itU k x).E=0 by simpa using q)⟩,f,b⟩
  all_goals
   ·have p:¬(k:Int)<(n:Int):=by omega
    go_wp2;go_ret;exact⟨k,rfl,⟨j,l,.inl (show k=n by omega)⟩,f,b⟩
theorem b9q[qd](B g:Nat)(x:Hp)(n:Nat)(w:World)(h:GOk B w g x)(s:Snd x)(D:n≠0)(N:n<=100000)(t:x.E=0)(a:World)(E:a.heap.size<=B)(I:Ext a w):
  Calls prog 47 #[pP g,iv n] w λe w'=>∃k:Nat,e=.returned (iv k)/\Hid (a2j (dC x 1 0) n k)/\GOk B w' g (itU k (dC x 1 0))/\Ext a w':=by
 have⟨_,_,l,_,K,c⟩:=h.box;have S:=s.begin t;have L:((n:Int) == 0)=false:=by simpa using D
 rw[t]at l;have⟨y,u⟩:=obE (dC x 1 0);have A:=uU (a4m B g x w h a E I);rw[<-u]at S A ⊢;clear h s t D u;go_in;go_wp21;refine A.mono ?_;rintro e M ⟨rfl,f,v⟩;have z:=uU f;have⟨_,_,l,_,_,c⟩:=f.box;clear f;go_wp21;go_loopw [5] (λd wr=>∃k:Nat,k<=n/\d=iv k/\Hid (kQ y k)/\Hid (GOk B wr g (itU k y))/\Ext a wr) (λd _=>n-(intOf d).toNat)
 case atStart=>exact⟨0,kB _,rfl,kQ.zero _,z,v⟩
 case round=>
  clear z v l c;obtain⟨k,p,rfl,o,j,b⟩:=hrel;have⟨_,_,l,_,_,c⟩:=j.box;cases q:((itU k y).E == 0);focus
   have F:((itU k y).E != 0)=true:=by simpa using q
   have m:=uU (show(itU k y).E≠0 by simpa using q);by_cases r:k<n;have f:(k:Int)<(n:Int):=by omega
   go_wp21;refine(a5q B g _ _ j (S.itU k) m a E b).mono ?_;rintro e J ⟨rfl,C,G⟩;have H:=uU C;clear C l c;go_wp21;go_roundw
   case rel=>exact⟨k+1,by omega,by go_num,(o.succ m),H,G⟩
   simp[intOf];omega
  rotate_left
  focus
   have F:((itU k y).E != 0)=false:=by simpa using q
   by_cases r:k<n;have f:(k:Int)<(n:Int):=by omega
   go_wp21;go_ret;exact⟨k,rfl,⟨o,p,.inr (show(itU k y).E=0 by simpa using q)⟩,j,b⟩
  all_goals
   ·have f:¬(k:Int)<(n:Int):=by omega
    go_wp21;go_ret;exact⟨k,rfl,⟨o,p,.inl (show k=n by omega)⟩,j,b⟩
theorem c1o(g:Nat)(w:World):Calls prog 47 #[pP g,iv 0] w λe w'=>e=.returned (iv 0)/\w'=w:=by
 go_in;go_wp2;go_ret;exact⟨rfl,rfl⟩
theorem a5r[qd](B g:Nat)(x:Hp)(n:Nat)(w:World)(h:GOk B w g x)(s:Snd x)(f:n<=100000)(a:World)(i:a.heap.size<=B)(d:Ext a w):
  Calls prog 47 #[pP g,iv n] w λe w'=>∃k:Nat,e=.returned (iv k)/\Hid (a2j (stepH x n) n k)/\GOk B w' g (itU k (stepH x n))/\Ext a w':=by
 by_cases c:n=0;subst c;have e:stepH x 0=x:=by unfold stepH;rw[if_neg (λh=>h.2 rfl)]
 rw[e];refine(c1o g w).mono ?_;rintro e w' ⟨rfl,rfl⟩;exact⟨0,rfl,⟨kQ.zero _,hT _,.inl rfl⟩,h,d⟩;by_cases b:x.E=0
 ·have e:stepH x n=dC x 1 0:=by unfold stepH;rw[if_pos ⟨b,c⟩]
  rw[e];exact b9q B g x n w h s c f b a i d
 have e:stepH x n=x:=by unfold stepH;rw[if_neg (λh=>b h.1)]
 rw[e];exact c1n B g x n w h s c f b a i d
theorem b7t[qd](B g:Nat)(x:Hp)(w:World)(h:GOk B w g x)(s:Snd x)(a:World)(z:a.heap.size<=B)(y:Ext a w):
  Calls prog 108 #[pP g] w λe w'=>∃k:Nat,e=.returned (iv k)/\Hid (b3b x k)/\GOk B w' g (itU k x)/\Ext a w':=by
 have S:=uU s;go_in;go_wp21;go_loopg [3] (14000000) (λp d wr=>∃k:Nat,d=iv k/\Hid (kQ x k)/\Hid (mu (itU k x)<=p)/\Hid (GOk B wr g (itU k x))/\Ext a wr)
 case atStart=>exact⟨0,rfl,kQ.zero _,S.mu_le,h,y⟩
 case round=>
  obtain⟨k,rfl,i,j,f,b⟩:=hrel;have⟨_,_,C,_,_,r⟩:=f.box;have A:=i.le S;cases q:((itU k x).E == 0)
  ·have l:((itU k x).E != 0)=true:=by simpa using q
   have c:=uU (show(itU k x).E≠0 by simpa using q);go_wp21;refine(a5q B g _ _ f (S.itU k) c a z b).mono ?_;rintro e D ⟨rfl,u,o⟩;have E:wrap64 ((k:Int)+1)=(k:Int)+1:=by unfold wrap64;omega
   go_wp21;go_roundg (mu (itU (k+1) x))
   case measure=>have:=(show mu (itU (k+1) x)<mu (itU k x) from(S.itU k).less c);have:=uH j;omega
   case rel=>exact⟨k+1,by go_num,(i.succ c),hT _,u,o⟩
  have l:((itU k x).E != 0)=false:=by simpa using q
  go_wp2;go_ret;exact⟨k,rfl,⟨(show(itU k x).E=0 by simpa using q),i⟩,f,b⟩
theorem a7c[qd](B g:Nat)(x:Hp)(w:World)(h:GOk B w g x)(s:Snd x)(a:World)(d:a.heap.size<=B)(A:Ext a w):
  Calls prog 49 #[pP g] w λe w'=>∃y z,e=.returned (.tuple #[])/\Hid (a9g x y/\a9g (dC y 1 0) z)/\GOk B w' g z/\Ext a w':=by
 go_in;go_wp21;refine(b7t B g x _ h s a d A).mono ?_;rintro e E ⟨k,rfl,c,j,u⟩;have⟨y,f⟩:=obE (itU k x);rw[<-f]at j;have b:=uU (show a9g x y from⟨k,c,f⟩);go_wp21;refine(a4m B g y _ j a d u).mono ?_;rintro e C ⟨rfl,r,n⟩;go_wp21;refine(b7t B g _ _ r ((b.snd s).1.begin (b.snd s).2) a d n).mono ?_;rintro e D ⟨i,rfl,c,v,m⟩;go_wp21;go_end0;exact⟨y,_,rfl,⟨b,(show a9g (dC y 1 0) (itU i (dC y 1 0)) from⟨i,c,rfl⟩)⟩,v,m⟩
theorem a0j(n:Int)(w:World):Calls prog 95 #[iv n] w λe w'=>e=.returned (tQ 0 n)/\Ext w w':=by
 go_in;go_wp21;first
  | (go_ret;exact⟨rfl,by repeat (first|exact hO _|refine mD ?_ _)⟩)
  | exact bodyPost_ret (v:=tQ 0 n) (by simp[results,results95,go_sem]) rfl ⟨rfl,by repeat (first|exact hO _|refine mD ?_ _)⟩
theorem a0s(n:Int)(w:World):Calls prog 91 #[iv n] w λe w'=>e=.returned (tQ n 0)/\Ext w w':=by
 go_in;go_wp21;first
  | (go_ret;exact⟨rfl,by repeat (first|exact hO _|refine mD ?_ _)⟩)
  | exact bodyPost_ret (v:=tQ n 0) (by simp[results,results91,go_sem]) rfl ⟨rfl,by repeat (first|exact hO _|refine mD ?_ _)⟩
theorem GOk.set12[qd](h:GOk B w g x)(v:Int):GOk B (w.setCell (aA g 12) (iv v)) g { x with S:=v }:=by
 obtain⟨m,e,f,d,b,c,l,k,j,i,a,h⟩:=h;exact⟨_,_,_,_,_,_,_,_,_,_,_,h.boxed (x':={ x with S:=v }) (tE w g 12 _) (h.nf.set _ _) rfl rfl rfl (h.bx.set12 v)⟩
theorem GOk.set2[qd](h:GOk B w g x)(v:Int):GOk B (w.setCell (aA g 2) (iv v)) g { x with born:=v }:=by
 obtain⟨m,e,f,d,b,c,l,k,j,i,a,h⟩:=h;exact⟨_,_,_,_,_,_,_,_,_,_,_,h.boxed (x':={ x with born:=v }) (tE w g 2 _) (h.nf.set _ _) rfl rfl rfl (h.bx.set2 v)⟩
theorem GOk.nums[qd](h:GOk B w g x):w.cell? (aA g 0)=some (iv x.M)/\w.cell? (aA g 1)=some (iv x.K)/\w.cell? (aA g 2)=some (iv x.born)/\w.cell? (aA g 5)=some (iv x.E)/\w.cell? (aA g 9)=some (iv x.per)/\w.cell? (aA g 10)=some (iv x.V)/\w.cell? (aA g 12)=some (iv x.S):=by
 obtain⟨m,n,y,l,s,u,p,o,z,v,c,h⟩:=h;obtain⟨f,d,j,r,C,i,A,q,t,e,b,k,a⟩:=h.bx;exact⟨f,d,j,i,e,b,a⟩
theorem b5f[qd](B g:Nat)(x:Hp)(u:Nat)(w:World)(h:GOk B w g x)(s:Snd x)(hu:u<=201)(a:World)(M:a.heap.size<=B)(L:Ext a w):
  Calls prog 149 #[pP g,iv u] w λe w'=>∃y,e=.returned (.bool (zY y u))/\Hid (tN x u y)/\Hid (GOk B w' g y)/\Ext a w':=by
 have H:=uU h;obtain⟨R,N,Z,Y,O,F,j⟩:=h.nums;have D:g<w.heap.size:=h.box.2.2.2.2.2;have k:=h.box.2.2.2.1 12;have U:a.heap.size<=g:=kA M h.box.2.2.2.2.1;have us:0<=x.K/\x.K<=4000:=by have G:=s.r3;have A:=s.r1.M;unfold R3 at G;omega
 have fo:=s.r1.S;have S:=uU s;have wu:wrap64 (x.K+(u:Int))=x.K+(u:Int):=a1g _ (by omega) (by omega);clear h s;cases q:zY x u
 ·have V:¬(x.K+(u:Int)<=x.M):=by simpa[zY]using q
  have Q:=uU q;clear q;have m:=uU (show ∀(c:World)(y:Hp),Snd y->GOk B c g y->(c.cell? (aA g 0)=some (iv y.M)/\c.cell? (aA g 1)=some (iv y.K)/\wrap64 (y.K+(u:Int))=y.K+(u:Int)/\g<c.heap.size) from λc y i b=>by
   have aa:0<=y.K/\y.K<=4000:=by have G:=i.r3;have A:=i.r1.M;unfold R3 at G;omega
   exact⟨b.nums.1,b.nums.2.1,a1g _ (by omega) (by omega),uZ b.nums.1⟩)
  have d:=uU (show ∀(n:World),GOk B n g (forceTo x)->Ext a n->Calls prog 49 #[pP g] n λe w'=>∃y,e=.returned (.tuple #[])/\Hid (tN x u y)/\Hid (Snd y)/\Hid (GOk B w' g y)/\Ext a w' from λn A x1=>(a7c B g _ n A S.forceTo a M x1).mono λe c ⟨y,z,T,f,b,l⟩=>⟨z,T,.inr ⟨Q,⟨y,f.1,f.2⟩⟩,a6z.snd S.forceTo ⟨y,f.1,f.2⟩,b,l⟩);go_in;go_wp21;go_quiet (fail);obtain⟨W,C⟩:=obE (w.drewN nq);rw[<-C];have r:Ext w W:=by rw[C];exact Ext.drewN (hO w) nq
  have K:=uU (H.ext r);have I:=uU (L.trans r);have X:=r.keep j;have ab:=((cX r).2 g 12 D).trans k;clear C R N Z Y O F j k r;by_cases J:x.S<1000000000;focus
   have t:=uU (show GOk B (W.setCell (aA g 12) (iv (x.S+1))) g (forceTo x) by
    have:=K.set12 (x.S+1);unfold forceTo;rw[if_pos J];exact this)
   have X1:=uU (I.sc g 12 U (iv (x.S+1)));have wf:wrap64 (x.S+1)=x.S+1:=by unfold wrap64;omega
   go_wp21;refine(d _ t X1).mono ?_
  rotate_left
  focus
   have t:=uU (show GOk B W g (forceTo x) by
    unfold forceTo;rw[if_neg J];exact K)
   go_wp21;refine(d _ t I).mono ?_
  all_goals
   rintro e c ⟨y,rfl,f,i,b,l⟩;obtain⟨P,d1,v,o⟩:=uH m c y i b;go_wp21;go_quiet (fail);go_wp21;go_ret;exact⟨y,rfl,f,b.ext (Ext.drewN (hO _) _),Ext.drewN l _⟩
 have V:x.K+(u:Int)<=x.M:=by simpa[zY]using q
 have E:=uU q;clear q;go_in;go_wp21;go_quiet (fail);go_wp21;go_ret;exact⟨x,by rw[uH E];rfl,.inl ⟨E,rfl⟩,H.ext (Ext.drewN (hO _) _),Ext.drewN L _⟩
theorem b5g[qd](B g:Nat)(x:Hp)(u:Nat)(w:World)(h:GOk B w g x)(s:Snd x)(hu:u<=201)(a:World)(Q:a.heap.size<=B)(o:Ext a w):
  Calls prog 152 #[pP g,iv u] w λe w'=>∃y,e=.returned (.tuple #[])/\Hid (zV x u y)/\Hid (GOk B w' g y)/\Ext a w':=by
 have f:=uU h;obtain⟨c0,c1,c2,H,U,M,D⟩:=h.nums;have L:g<w.heap.size:=h.box.2.2.2.2.2;have pr:=s.r1.per;have S:=uU s;obtain⟨p,v⟩:∃p:Nat,x.per=(p:Int):=⟨x.per.toNat,by omega⟩;have r:=uU v;rw[v]at U;have n:p<=64:=by omega
 have K:p*u<=64*201:=Nat.mul_le_mul n hu;have d:((p:Int)*(u:Int))=((p*u:Nat):Int):=by simp
 obtain⟨m,I⟩:=obE (p*u);rw[<-I]at K d;have wm:wrap64 ((p:Int)*(u:Int))=(m:Int):=by rw[d];exact a1g _ (by omega) (by omega)
 have O:=uU (show x.per.toNat*u=m by rw[v,I];simp);have t:=uU (show a4a x u=(x.per == 0 || (u == 0 || (x.E == 0 && decide (x.K<=x.V)))) from rfl);clear h s v I d;cases N:((p:Int) == 0);have A:p≠0:=by simpa using N
 cases Y:((u:Int) == 0)
 have i:u≠0:=by simpa using Y
 have M0:=uU (show m≠0 by
  have:=uH O;rw[uH r,mC]at this;rw[<-this];exact Nat.mul_ne_zero A i)
 have c:=uU (show a4a x u=(x.E == 0 && decide (x.K<=x.V)) by
  rw[uH t,uH r,show((p:Int) == 0)=false from N,show(u == 0)=false by simpa using i];rfl)
 clear t;cases q:(x.E == 0);have F:=uU (show a4a x u=false by rw[uH c,q];rfl);go_in;go_wp21;refine(a5r B g x m _ f S (by omega) a Q o).mono ?_;rintro e w2 ⟨k,rfl,l,j,J⟩;have P:=uU j;have R:=uU (show zV x u (itU k (stepH x m)) from .inr ⟨F,k,by rw[uH O];exact⟨l,rfl⟩⟩);clear j l;go_wp21;go_end0;exact⟨_,rfl,R,P,J⟩;have P0:=uU (show x.E=0 by simpa using q);have b:=uH P0;by_cases X:x.K<=x.V
 ·have T:=uU (show a4a x u=true by rw[uH c,q,decide_eq_true X];rfl);rw[b]at H;clear b;go_in;go_wp21;go_quiet (fail);go_wp21;refine bodyPost_ret (results_none rfl _ _ _) rfl ?_;exact⟨x,rfl,.inl ⟨T,rfl⟩,f.ext (Ext.drewN (hO _) _),Ext.drewN o _⟩
 have F:=uU (show a4a x u=false by rw[uH c,q,decide_eq_false X];rfl);have EX:=uU (show stepH x m=dC x 1 0 by unfold stepH;rw[if_pos ⟨b,uH M0⟩]);have z:=uU (show stepH (dC x 1 0) m=dC x 1 0 by unfold stepH;rw[if_neg (λh=>by have:=h.1;simp[dC]at this)]);have S1:=uU (S.begin b);rw[b]at H;clear b;go_in;go_wp21;go_quiet (fail);obtain⟨W,G⟩:=obE (w.drewN nq);rw[<-G];have E:Ext w W:=by rw[G];exact Ext.drewN (hO w) nq
 have HW:=uU (f.ext E);have XW:=uU (o.trans E);clear G c0 c1 c2 H U M D L E;go_wp21;refine(a4m B g x _ HW a Q XW).mono ?_;rintro e w1 ⟨rfl,C,x1⟩;have H1:=uU C;have V:=C.nums.2.2.2.2.1;rw[show(dC x 1 0).per=(p:Int) from uH r]at V;have Z:=cLt V;clear C;go_wp21;refine(a5r B g (dC x 1 0) m _ H1 S1 (by omega) a Q x1).mono ?_;rintro e w2 ⟨k,rfl,l,j,J⟩;have P:=uU j;have R:=uU (show zV x u (itU k (stepH (dC x 1 0) m)) from .inr ⟨F,k,by rw[uH O,uH EX];have:=uH l;rw[uH z]at this ⊢;exact⟨this,rfl⟩⟩);clear j l;go_wp21;go_end0;exact⟨_,rfl,R,P,J⟩;have T:=uU (show a4a x u=true by rw[uH t,show(u == 0)=true by simpa using Y];simp);go_in;go_wp21;refine bodyPost_ret (results_none rfl _ _ _) rfl ?_;exact⟨x,rfl,.inl ⟨T,rfl⟩,f,o⟩;have T:=uU (show a4a x u=true by rw[uH t,uH r,show((p:Int) == 0)=true from N];rfl);go_in;go_wp21;refine bodyPost_ret (results_none rfl _ _ _) rfl ?_;exact⟨x,rfl,.inl ⟨T,rfl⟩,f,o⟩
theorem SAt.black[qd](h:SAt B w b x ar kr v4 v8 br cB cO bn pb pa pk kn hd vf F vk K role)(i:Nat)(a:i<x.A.length):SAt B (w.setCell (aA (cB i) (cO i+5)) (iv 2)) b { x with A:=x.A.set i (a2a (x.c i)) } ar kr v4 v8 br cB cO bn pb pa pk kn hd vf F vk K role:=by
 refine h.setc a rfl (uQ.setCell (S:=λq=>q=cB i) (uQ.refl _ w) (p:=(aA (cB i) (cO i+5))) rfl _) ?_ (λk n=>uC _ (.inr (by omega))) ((h.rw.nc i a).1.set _ _);have⟨f,g,j,d,m,e,l⟩:=h.rw.s i a;refine⟨?_,?_,?_,?_,?_,kM _ _ _ e,?_⟩;all_goals
  rw[uC _ (.inr (by omega))];assumption
theorem c5t[qd](h:SAt B w b x ar kr v4 v8 br cB cO bn pb pa pk kn hd vf F vk K role)(n8:x.A.length<=8000)(hp:x.E=2)(i:Nat)(G:List Int)(y:x.D=(i:Int)::G)(d:i<x.A.length)(z:¬x.sub<((x.c i).F.length:Int))(a:World)(ha:a.heap.size<=B)(hx:Ext a w):
  Calls prog 277 #[.agg #[pP b]] w λe w'=>e=.returned (yQ (dX x).E b)/\Hid (SAt B w' b (dX x) ar kr v4 v8 br cB cO bn pb pa pk kn ((hd+1) % 4000) vf F vk K role)/\Ext a w':=by
 have L:((i:Int)).toNat=i:=by omega
 have E:dX x={ x with A:=x.A.set i (a2a (x.c i)),D:=G,sub:=0 }:=by
  unfold dX;rw[y];simp only[L,if_neg z]
 have M:=(hO w).alloc (.cells #[pP b] 213);have QA:=uU (a4o b bn hd i G _ ((show RAt w b bn hd ((i:Int)::G) by have:=h.sb.rg;rw[y]at this;exact this).block (M.block b h.sb.nb.1)));have ae:b<w.heap.size:=h.sb.nb.1;have lo:=h.sb.lo.1;have hn:0<x.A.length:=by omega
 go_in;go_wp21;refine QA.mono ?_;rintro e j ⟨rfl,J⟩;rw[L];have D:j.cell? (aA w.heap.size 0)=some (pP b):=J.keep (by simp[go_sem]);have A:=M.trans J;have f:=h.ext A;have m1:=(f.sb.nd i d).2;have R:=(f.rw.s i d).2.2.2.2.2.1;have p7:=f.rw.p7 i d;have Y:=f.sb.bx.2.2.2.2.2.2.2.1;have f7:=f.sb.nb.2 7;have fc:=(f.rw.nc i d).1.2 (cO i+5);have P:=cLt Y;have ab:=cLt D;have ad:cB i<j.heap.size:=uZ R;have N:¬b=w.heap.size:=by omega
 have T:¬w.heap.size=b:=by omega
 have l:=uU (h.rw.nc i d);have aa:=uU (show ¬b=cB i from λe=>by have h1:=f.sp.b;have h2:=f.sp.c i d;rw[e]at h1;omega);go_wp21;go_quiet (fail);have n:=uU ((f.ext ((hO j).drewN nq)).black i d);obtain⟨m,g⟩:∃W,W=(j.drewN nq).setCell (aA (cB i) (cO i+5)) (iv 2):=⟨_,rfl⟩;rw[<-g]at n;have I:m.cell? (aA w.heap.size 0)=some (pP b):=by
  rw[g,uC _ (.inl (by have:=l.1.1;omega))];exact((hO j).drewN nq).keep D
 have u:=uU (show RAt m b bn hd ((i:Int)::G) by have:=n.sb.rg;rw[<-y];exact this);go_wp21;rw[<-g];refine(c9j b bn hd i G _ u n.sb.nb).mono ?_;rintro e r ⟨rfl,k⟩;have o:=n.rdrop k;have C:=k.2.1;have t0:r.cell? (aA w.heap.size 0)=some (pP b):=(cOb w.heap.size 0 (C.block w.heap.size (cLt I) (by omega))).trans I;have Q:=C.ext (show Ext a m by rw[g];exact((hx.trans A).drewN _).sc (cB i) (cO i+5) (kA ha l.2) _) (λq hq e=>by omega);have Z:=o.sb.bx.2.2.2.2.2.2.2.1;have g7:=o.sb.nb.2 7;have S:=cLt Z;have ac:=cLt t0;go_wp2;go_ret;exact⟨by rw[(show(dX x).E=2 by rw[uH E];exact hp)];rfl,by rw[uH E];exact (o.subs 0),(Q.setCell (p:=(aA b 7)) (show a.heap.size<=b by omega) (iv 0))⟩
theorem c9n[qd](h:SAt B w b x ar kr v4 v8 br cB cO bn pb pa pk kn hd vf F vk K role)(o:x.E=3)(i:x.I=x.A.length)(a:World)(q:a.heap.size<=B)(p:Ext a w):
  Calls prog 279 #[.agg #[pP b]] w λe w'=>e=.returned (yQ (dZ x).E b)/\Hid (SAt B w' b (dZ x) ar kr v4 v8 br cB cO bn pb pa pk kn hd vf F vk K role)/\Ext a w':=by
 have E:=uU (show dZ x=dC x (3+1) 0 by unfold dZ;rw[if_pos i];rfl);have c:=(hO w).alloc (.cells #[pP b] 214);go_in;go_wp21;refine(a4n x.I b x.A.length kn (some (aA bn 0)) _ (c.keep h.sb.bx.2.2.2.2.2.2.1) (c.keep h.sb.n13) (by simpa using i)).mono ?_;rintro e l ⟨rfl,g⟩;have s:l.cell? (aA w.heap.size 0)=some (pP b):=g.keep (by simp[go_sem]);have f:=c.trans g;go_wp21;refine(a7o (h.ext f) 3 o rfl rfl (by omega) a q (p.trans f)).mono ?_;rintro e r ⟨rfl,k,n⟩;go_wp2;go_ret;exact⟨by rw[uH E];rfl,uH E▸uH k,n⟩
theorem b5t(s:Snd x)(i:Nat)(l:x.I=(i:Int))(d:i<x.A.length)(f:(x.c i).st≠1):dZ x={ x with I:=(i:Int)+1 }:=by
 have g:x.I.toNat=i:=by omega
 have k:zK (x.c i)=x.c i:=by
  have h:(x.c i).J=0:=by
   obtain⟨_,b,_⟩|⟨_,b⟩|⟨a,_⟩:=s.r2.1 i d;exact b.2.2.2.2.1;exact b.1.2.2.2.2.1;exact absurd a f
  unfold zK;rw[<-h]
 have j:x.A.set i (x.c i)=x.A:=by
  rw[<-Hp.c_eq x i d];simp
 unfold dZ;rw[if_neg (by omega),g,if_neg (by simp[whB];intro e;exact absurd e f),k,j,l]
theorem c5u[qd](h:SAt B w b x ar kr v4 v8 br cB cO bn pb pa pk kn hd vf F vk K role)(s:Snd x)(I:x.E=3)(i:Nat)(m:x.I=(i:Int))(d:i<x.A.length)(t:((x.c i).st == 1)=false)(a:World)(Q:a.heap.size<=B)(J:Ext a w):
  Calls prog 279 #[.agg #[pP b]] w λe w'=>e=.returned (yQ (dZ x).E b)/\Hid (SAt B w' b (dZ x) ar kr v4 v8 br cB cO bn pb pa pk kn hd vf F vk K role)/\Ext a w':=by
 have E:=b5t s i m d (by simpa using t);have P:=s.ok.n8;have k:=(hO w).alloc (.cells #[pP b] 214);have j:=h.sb.bx.2.2.2.2.2.2.1;rw[m]at j;have N:=h.sb.lo.1;go_in;go_wp21;refine(a0x b x.A.length kn bn i _ (k.keep j) (k.keep h.sb.n13) d).mono ?_;rintro e r ⟨rfl,q⟩;have L:r.cell? (aA w.heap.size 0)=some (pP b):=q.keep (by simp[go_sem]);have n:=k.trans q;have f:=h.ext n;have v:=(f.sb.nd i d).2;have O:=(f.rw.s i d).1;have o:=uU (a5t (x.c i) bn i (cB i) (cO i) r v (f.rw.s i d));rw[(show whB (x.c i)=false by simp[whB,t])]at o;go_wp21;refine o.mono ?_;rintro e u ⟨rfl,g⟩;subst g;have j:u.cell? (aA b 6)=some (iv i):=by have:=f.sb.bx.2.2.2.2.2.2.1;rw[m]at this;exact this
 have M:=f.sb.nb.2 6;go_wp2;go_ret;exact⟨by rw[(show(dZ x).E=3 by rw[uH E];exact I)];rfl,by rw[uH E];exact (f.I ((i:Int)+1)),((J.trans n).sc b 6 (show a.heap.size<=b by omega) (iv ((i:Int)+1)))⟩
abbrev b3p(x:Hp)(t:Nat)(c':Cl):Hp:={ x with A:=tW x t c' }
theorem d2p(x:Hp)(t:Nat)(a:Cl)(b:t<=x.A.length)(q:Nat):(b3p x t a).c q=if q=t then a else x.c q:=b9r x (b3p x t a) t a b rfl q
theorem newX_lt(x:Hp)(t:Nat)(b:Cl)(c:t<=x.A.length)(q:Nat)(a:q<(b3p x t b).A.length):q=t\/(q<x.A.length/\q≠t):=by
 have:=a3p x t b;have a:q<(tW x t b).length:=a;rw[this]at a;split at a <;> omega
theorem S7.of2{b' o:Nat}{c:Cl}(h:S7 w b o c)(e:∀j,j<7->w'.cell? (aA b' (o+j))=w.cell? (aA b (o+j))):S7 w' b' o c:=by
 have⟨f,g,i,a,l,d,k⟩:=h;exact⟨(e 0 (by omega)).trans f,(e 1 (by omega)).trans g,(e 2 (by omega)).trans i,(e 3 (by omega)).trans a,(e 4 (by omega)).trans l,(e 5 (by omega)).trans d,(e 6 (by omega)).trans k⟩
theorem GAt.newc[qd](h:GAt B w g x ar kr ac kc vg br bc pb pa pk role)(Z:0<x.B.length)(t:Nat)(ht:t<=x.A.length)(A:Cl)(c E F:Nat)(Y:Option Addr)(M:Nat)(hs:w.heap.size<=w'.heap.size)
  (ad:(c=bc/\0<kc)\/w.heap.size<=c) (ae:∀q,q<w.heap.size->q≠g->q≠c->w'.heap[q]?=w.heap[q]?) (ah:Nf1 g w') (bx:cY w' g (b3p x t A) (.slice ar x.B.length kr) (sS c (tW x t A).length E) vg)
  (N:Nf1 c w') (ab:∀j,j<E*8->∃v,w'.cell? (aA c j)=some v) (hB:B<=c) (ag:(tW x t A).length<=E) (af:S7 w' c (t*8) A) (aa:w'.cell? (aA c (t*8+7))=some (.slice Y A.F.length M))
  (ho:∀q,q<x.A.length->q≠t->∀j,j<8->w'.cell? (aA c (q*8+j))=w.cell? (aA bc (q*8+j))) (hp:∀k,k<A.F.length->qC w' F (k*6) (A.p k)) (X:A.F.length<=M) (R:0<M->Y=some (aA F 0)/\Nfp F M w'/\w.heap.size<=F/\B<=F/\F≠c) :
  GAt B w' g (b3p x t A) ar kr (some (aA c 0)) E vg br c (λq=>if q=t then F else pb q) (λq=>if q=t then Y else pa q) (λq=>if q=t then M else pk q) (λd=>if d=c then 3 else if w.heap.size<=d then 6+t else role d):=by
 have Q:∀d,d<w.heap.size->role d≠3->d≠c:=λd hd n e=>by
  obtain⟨i,l⟩|i:=ad;exact n (by rw[e,i];exact(h.cc l).ro);omega
 have J:∀d,d<w.heap.size->role d≠3->(if d=c then 3 else if w.heap.size<=d then 6+t else role d)=role d:=λd hd n=>by rw[if_neg (Q d hd n),if_neg (by omega)]
 have o:∀q,q<w.heap.size->role q≠0->role q≠3->w'.heap[q]?=w.heap[q]?:=λq b h0 h3=>ae q b (λe=>h0 (e▸h.sp.g)) (Q q b h3)
 have O:=d2p x t A ht;have C:=newX_lt x t A ht;have pf:∀q,q<x.A.length->0<pk q->w'.heap[pb q]?=w.heap[pb q]?:=λq b G=>o (pb q) (h.rw.pl q b G).2.1.1 (by rw[h.sp.p q b G];omega) (by rw[h.sp.p q b G];omega)
 have fr:0<x.B.length->w'.heap[br]?=w.heap[br]?:=λn=>o br (h.rw.nr n).1.1 (by rw[h.sp.r n];omega) (by rw[h.sp.r n];omega)
 have W:∀q,q<x.A.length->0<pk q->pb q≠c:=λq b G=>Q (pb q) (h.rw.pl q b G).2.1.1 (by rw[h.sp.p q b G];omega)
 refine⟨bx,ah,h.lo,h.ha,λ_=>rfl,⟨λj D=>?_,λq b=>?_,λq b=>?_,λq b j D=>?_,λq b f=>?_,λn=>⟨uY (h.rw.nr n).1 (fr n) hs,(h.rw.nr n).2⟩,λ_=>⟨N,hB⟩,λ_=>Q br (h.rw.nr Z).1.1 (by rw[h.sp.r Z];omega),λq K b I L z H=>?_,λq b=>?_⟩,h.gr.block (λq b=>o q (h.gr.lt q b).2 (by rw[h.sp.y q b];omega) (by rw[h.sp.y q b];omega)),⟨?_,λn=>?_,λ_=>if_pos rfl,λq b=>?_,λq b f=>?_⟩,ag,h.pr.of (λq b z=>o q b (by rw[z];omega) (by rw[z];omega)) (λq b z=>by(try dsimp only);rw[J q b (by rw[z];omega)];exact z),λ_=>⟨rfl,if_pos rfl,N,ab,hB⟩,λn=>h.rob n (fr n)⟩;exact(h.rw.r j D).of λm _=>cOb br _ (fr (by have:j<x.B.length:=D;omega))
 rw[O q];obtain e|⟨i,l⟩:=C q b
 ·rw[if_pos e,e];exact af
 rw[if_neg l];exact(h.rw.s q i).of2 λj D=>ho q i l j (by omega)
 rw[O q];obtain e|⟨i,l⟩:=C q b
 ·simp only[if_pos e];rw[e];exact aa
 simp only[if_neg l];rw[ho q i l 7 (by omega)];exact h.rw.p7 q i;rw[O q]at D ⊢;obtain e|⟨i,l⟩:=C q b
 ·simp only[if_pos e]at D ⊢;exact hp j D
 simp only[if_neg l]at D ⊢;exact(h.rw.p q i j D).of λm _=>cOb (pb q) _ (pf q i (h.rw.pw i (by omega)))
 obtain e|⟨i,l⟩:=C q b
 ·simp only[if_pos e]at f ⊢;have⟨V,U,P,T,S⟩:=R f;exact⟨V,U,⟨λe=>by have:=(h.rw.nr Z).1.1;omega,S⟩,T⟩
 simp only[if_neg l]at f ⊢;have⟨V,U,P,T⟩:=h.rw.pl q i f;exact⟨V,dV U (pf q i f) hs,⟨P.1,W q i f⟩,T⟩;obtain e|⟨i,l⟩:=C q b
 ·have e':K≠t:=λu=>L (by rw[e,u])
  obtain u|⟨u1,u2⟩:=C K I;exact absurd u e';simp only[if_pos e,if_neg e']at z H ⊢;have:=(h.rw.pl K u1 H).2.1.1;have:=(R z).2.2.1;omega
 obtain u|⟨u1,u2⟩:=C K I
 ·simp only[if_pos u,if_neg l]at z H ⊢;have:=(h.rw.pl q i z).2.1.1;have:=(R H).2.2.1;omega
 simp only[if_neg l,if_neg u2]at z H ⊢;exact h.rw.dp q K i u1 L z H;rw[O q];obtain e|⟨i,l⟩:=C q b
 ·simp only[if_pos e];exact X
 simp only[if_neg l];exact h.rw.kp q i;rw[J g h.nf.1 (by rw[h.sp.g];omega)];exact h.sp.g;rw[J br (h.rw.nr n).1.1 (by rw[h.sp.r n];omega)];exact h.sp.r n;rw[J q (h.gr.lt q b).2 (by rw[h.sp.y q b];omega)];exact h.sp.y q b;obtain e|⟨i,l⟩:=C q b
 ·simp only[if_pos e]at f ⊢;have⟨_,_,P,_,S⟩:=R f;rw[if_neg S,if_pos P,e]
 simp only[if_neg l]at f ⊢;rw[J (pb q) (h.rw.pl q i f).2.1.1 (by rw[h.sp.p q i f];omega)];exact h.sp.p q i f
abbrev z6:Array Value:=#[iv 0,iv 0,iv 0,iv 0,iv 0,iv 0]
theorem made6(m j:Nat)(a:j<m):(madeCells z6 m)[j]?=some (iv 0):=by
 have b:j % 6<6:=mN _ (by omega);have:([iv 0,iv 0,iv 0,iv 0,iv 0,iv 0]:List Value)[j % 6]?.getD default=iv 0:=by
  have:j % 6=0\/j % 6=1\/j % 6=2\/j % 6=3\/j % 6=4\/j % 6=5:=by omega
  obtain e|e|e|e|e|e:=this <;> rw[e] <;> rfl
 simp[madeCells,a];exact this
theorem c2a(n:Nat)(f:n<=1048576)(w:World):(Instr.makeSlice 68 (iv n) (iv n)).run prog w=.ok (sS w.heap.size n n) (w.alloc (.cells (madeCells z6 (n*6)) 90)):=by
 have⟨d,e,b,a,c⟩:=info_parts a2r;have h:=run_make (P:=prog) w 68 90 d _ underlying68 e b .i64 .i64 n n (by omega) (mx _) (by rw[c];omega) (by omega);rw[a]at h;simp only[Int.toNat_natCast]at h;exact h
structure a6i(w0 W:World)(qb n:Nat):Prop where
 lt:w0.heap.size<=qb
 nf:Nfp qb n W
 z:∀k,k<n->qC W qb (k*6) Pr0
theorem a6i.ext(h:a6i w0 W qb n)(e:Ext W W'):a6i w0 W' qb n:=⟨h.lt,h.nf.ext e,λk a=>(h.z k a).ext e⟩
theorem a6i.made(w0 w:World)(n:Nat)(t:TypeId)(e:Ext w0 w):a6i w0 (w.alloc (.cells (madeCells z6 (n*6)) t)) w.heap.size n:=by
 have c:(w.alloc (.cells (madeCells z6 (n*6)) t)).heap[w.heap.size]?=some (.cells (madeCells z6 (n*6)) t):=heap_alloc_new w _;have a:∀j,j<n*6->(w.alloc (.cells (madeCells z6 (n*6)) t)).cell? (aA w.heap.size j)=some (iv 0):=λj b=>cell_of_row _ w.heap.size j _ _ (0,0) c▸made6 _ j b
 exact⟨e.size,⟨by simp,λ_=>by simp[go_sem],λj b=>⟨_,a j b⟩⟩,λk d=>⟨a _ (by omega),a _ (by omega),a _ (by omega),a _ (by omega),a _ (by omega),a _ (by omega)⟩⟩
theorem a6i.only(h:a6i w0 W qb n)(o:uQ S W W')(b:¬S qb):a6i w0 W' qb n:=
 ⟨h.lt,dV h.nf (o.block qb h.nf.1 b) o.size,λk c=>(h.z k c).of λ_ _=>cOb qb _ (o.block qb h.nf.1 b)⟩
theorem rep_p(c:Cl)(m:Nat)(h:c.F=List.replicate m Pr0)(k:Nat):c.p k=Pr0:=by grind[Hp.c,Pr0,Cl.p]
theorem c5o[qd](h:GAt B w0 g x ar kr ac kc vg br bc pb pa pk role)(K:0<x.B.length)(t:Nat)(v:t<x.A.length)(a:Cl)(m:Nat)(I:a.F=List.replicate m Pr0)(W:World)(e:Ext w0 W)(b:Nat)(np:a6i w0 W b m):
  GOk B (eZ W bc (t*8) a (sS b m m)) g (b3p x t a):=by
 have J:0<x.A.length:=by omega
 have n:0<kc:=kF J h.kl;have f:=h.cc n;have d:=h.ext e;have l:(tW x t a).length=x.A.length:=by rw[a3p,if_pos v]
 have A:a.F.length=m:=by rw[I];simp
 have o:=a0a W bc (t*8) a (sS b m m);have p:b≠bc:=λe=>by have:=np.lt;have:=f.nf.1;omega
 have w:g≠bc:=λe=>by have y:=h.sp.g;have D:=f.ro;rw[e]at y;omega
 have C:=o.block g d.nf.1 w;obtain⟨F,G⟩:=a4b W bc (t*8) a (x.c t) (sS b m m) _ (d.rw.s t v) (d.rw.p7 t v);have E:=a1n W bc (t*8) a (sS b m m);have i:=np.only o p;refine⟨_,_,_,_,_,_,_,_,_,_,_,h.newc K t (nJ v) a bc kc b (some (aA b 0)) m (kA e.size o.size) (.inl ⟨rfl,n⟩) (λq r y D=>(o.block q (kF r e.size) D).trans (e.block q r)) (uY d.nf C o.size) ?_ (a3e (d.cc n).nf _ _ _) (λj H=>?_) f.lo (l▸h.kl) F (by rw[A];exact G) (λq r y j H=>?_) (λk n=>?_) (A▸hT _) (λr=>⟨rfl,i.nf,i.lt,by have:=f.lo;have:=f.nf.1;have:=np.lt;omega,p⟩)⟩;have:=(d.bx.block C);rw[f.ad]at this;rw[l];exact this;by_cases u:j<t*8\/t*8+8<=j
 ·rw[E j u];exact(d.cc n).cp j H
 by_cases u7:j=t*8+7
 ·rw[u7];exact⟨_,G⟩
 have:=F.some (j-t*8) (by omega);rw[show t*8+(j-t*8)=j by omega]at this;exact this;rw[E _ (by omega)];exact(cX e).1 bc _ f.nf.1;rw[rep_p a m I k];exact i.z k (by omega)
structure AppC[qd](B g:Nat)(x:Hp)(c':Cl)(v w:World)(b' k':Nat)(w':World):Prop where
 gk:∀W,Ext w' W->GOk B (W.setCell ⟨g,4,none⟩ (.slice (some ⟨b',0,none⟩) (x.A.length+1) k')) g (b3p x x.A.length c')
 far:w'.heap[g]?=w.heap[g]?
 sz:w.heap.size<=w'.heap.size
 ex:Ext v w'
theorem cell_fC{w:World}{b o:Nat}{c:Cl}{u:Value}(s:S7 w b o c)(p:w.cell? (aA b (o+7))=some u)(j:Nat)(k:j<8):w.cell? (aA b (o+j))=(fC (c,u))[j]?:=by
 have⟨d,h,e,g,a,i,f⟩:=s;match j,k with
 | 0,_=>exact d
 | 1,_=>exact h
 | 2,_=>exact e
 | 3,_=>exact g
 | 4,_=>exact a
 | 5,_=>exact i
 | 6,_=>exact f
 | 7,_=>exact p
def a8m(x:Hp)(pa:Nat->Option Addr)(pk:Nat->Nat):List (Cl×Value):=(List.range x.A.length).map (λq=>(x.c q,.slice (pa q) (x.c q).F.length (pk q)))
theorem d2r(x:Hp)(b:Nat->Option Addr)(a:Nat->Nat):(a8m x b a).length=x.A.length:=by simp[a8m]
theorem c7i(x:Hp)(b:Nat->Option Addr)(a:Nat->Nat)(q:Nat)(d:q<(a8m x b a).length):(a8m x b a)[q]=(x.c q,.slice (b q) (x.c q).F.length (a q)):=by simp[a8m]
theorem d2s[qd]{B:Nat}{w0:World}{g:Nat}{x:Hp}{ar:Option Addr}{kr:Nat}{ac:Option Addr}{kc:Nat}{vg:Value}{br bc:Nat}{pb:Nat->Nat}{pa:Nat->Option Addr}{pk:Nat->Nat}{role:Nat->Nat}(h:GAt B w0 g x ar kr ac kc vg br bc pb pa pk role)(r0:0<x.B.length)(n8:x.A.length<=8000)(d:Cl)(m:Nat)(hm:d.F=List.replicate m Pr0)(l:Nat)(Y:Option Addr)(hY:0<m->Y=some (aA l 0))(ty:TypeId)(n:World)(y:Ext w0 n)(np:a6i w0 n l m)(ad:Addr)(c:Nat)(hz:∀j u,(fC (d,.slice Y m m))[j]?=some u->n.cell? (ad.add j)=some u)(v:World)(hv:v.heap.size<=B)(hx:Ext v w0):
  ∃b' k' w',(Builtin.append_ #[24,24] ty #[.slice ac x.A.length kc,.slice (some ad) 1 c]).run prog n=.ok (.slice (some ⟨b',0,none⟩) (x.A.length+1) k') w'/\AppC B g x d v w0 b' k' w':=by
 have F:=h.ext y;have⟨i0,O,aa,E,V⟩:=info_parts a7z;have ab:∀u∈fC (d,.slice Y m m),u.oneCell'=true:=λu K=>by
  simp[fC]at K;obtain rfl|rfl|rfl|rfl|rfl|rfl|rfl|rfl:=K <;> rfl
 have H:(tW x x.A.length d).length=x.A.length+1:=by rw[a3p,if_neg (by omega)]
 have ml:d.F.length=m:=by rw[hm];simp
 have aj:B<=w0.heap.size:=kA h.lo (nJ h.nf.1);by_cases hr:x.A.length+1<=kc;have J:0<kc:=by omega
 have G:=F.cc J;have A:=run_append_room_cells (P:=prog) n 24 ty 70 i0 underlying24 O bc 0 x.A.length kc ad 1 c (fC (d,.slice Y m m)) (by rw[E];rfl) hz ab hr (λj t=>by
  have t:j<8:=t;have⟨u,K⟩:=G.cp (0+x.A.length*i0.size+j) (by rw[E];omega);rw[K];rfl) (λj _=>G.nf.2 _)
 rw[E,kO]at A;have T:uQ (λq=>q=bc) n (n.setCells bc (x.A.length*8) (fC (d,.slice Y m m))):=a1f (S:=λq=>q=bc) rfl (uQ.refl _ n);have I:g≠bc:=λe=>by have L:=h.sp.g;have h2:=G.ro;rw[e]at L;omega
 have bw:bc<w0.heap.size:=(h.cc J).nf.1;have lY:l≠bc:=λe=>by have:=np.lt;omega
 refine⟨bc,kc,_,by rw[G.ad];exact A,⟨λW e=>?_,(T.block g F.nf.1 I).trans (y.block g h.nf.1),kA y.size T.size,T.ext (hx.trans y) (λq C e=>by have:=G.lo;omega)⟩⟩;have R:uQ (λq=>q=bc) n W:=T.trans (uQ.of_ext e);have cW:∀j,W.cell? ⟨bc,j,none⟩=(n.setCells bc (x.A.length*8) (fC (d,.slice Y m m))).cell? ⟨bc,j,none⟩:=λj=>(cX e).1 bc j (kF G.nf.1 T.size)
 have M:∀j,(W.setCell ⟨g,4,none⟩ (.slice (some ⟨bc,0,none⟩) (x.A.length+1) kc)).cell? ⟨bc,j,none⟩=(n.setCells bc (x.A.length*8) (fC (d,.slice Y m m))).cell? ⟨bc,j,none⟩:=λj=>(uC _ (.inl I)).trans (cW j)
 have a:∀j,j<8->(W.setCell ⟨g,4,none⟩ (.slice (some ⟨bc,0,none⟩) (x.A.length+1) kc)).cell? ⟨bc,x.A.length*8+j,none⟩=(fC (d,.slice Y m m))[j]?:=λj t=>(M _).trans (a4s bc _ _ j n (λi Z=>G.cp _ (by have:i<8:=Z;omega)) t)
 have ae:Nf1 bc W:=G.nf.put.ext e;have qg:l≠g:=λe=>by have:=np.lt;have:=h.nf.1;omega
 have o:=(np.only R lY).only (S:=λq=>q=g) (uQ.setCell (S:=λq=>q=g) (uQ.refl _ W) (p:=⟨g,4,none⟩) rfl (.slice (some ⟨bc,0,none⟩) (x.A.length+1) kc)) qg;refine⟨_,_,_,_,_,_,_,_,_,_,_,h.newc r0 x.A.length (hT _) d bc kc l Y m (by have:=R.size;have:=y.size;simp only[World.setCell,Array.size_modify];omega) (.inl ⟨rfl,J⟩) (λq C L h2=>(kP _ _ _ _ L).trans ((R.block q (kF C y.size) h2).trans (y.block q C))) ((uY F.nf (R.block g F.nf.1 I) R.size).set _ _) ?_ (ae.set _ _) (λj t=>?_) G.lo (H▸hr) ⟨a 0 (by omega),a 1 (by omega),a 2 (by omega),a 3 (by omega),a 4 (by omega),a 5 (by omega),a 6 (by omega)⟩ (ml▸a 7 (by omega)) (λq C L j t=>?_) (λk J=>?_) (ml▸hT _) (λC=>⟨hY C,o.nf,o.lt,by have:=o.lt;omega,lY⟩)⟩;have:=(F.bx.block (R.block g F.nf.1 I)).set4 (.slice (some ⟨bc,0,none⟩) (x.A.length+1) kc);rw[H];exact this;by_cases u:j<x.A.length*8\/x.A.length*8+8<=j
 ·rw[M,a1z bc _ _ _ n (by have:(fC (d,.slice Y m m)).length=8:=rfl;omega)];exact G.cp j t
 have:=a (j-x.A.length*8) (by omega);rw[show x.A.length*8+(j-x.A.length*8)=j by omega]at this;rw[this];have hl:j-x.A.length*8<(fC (d,.slice Y m m)).length:=by have:(fC (d,.slice Y m m)).length=8:=rfl;omega
 exact⟨_,mV hl⟩;rw[M,a1z bc _ _ _ n (by omega)];exact(cX y).1 bc _ bw;rw[rep_p d m hm k];exact o.z k (by omega);have N:=d2r x pa pk;have rc:∀W,Ext w0 W->∀q,q<x.A.length->∀j,j<8->W.cell? ⟨bc,q*8+j,none⟩=(fC (x.c q,.slice (pa q) (x.c q).F.length (pk q)))[j]?:=λW e q C j t=>cell_fC ((h.ext e).rw.s q C) ((h.ext e).rw.p7 q C) j t
 have U:∃r w',(Builtin.append_ #[24,24] ty #[.slice ac x.A.length kc,.slice (some ad) 1 c]).run prog n=.ok r w'/\w'.ownsRow n.heap.size 70 8 r (x.A.length+1) ((a8m x pa pk).flatMap fC++fC (d,.slice Y m m))/\n.grownBy w' none:=by
  have X:x.A.length+1<=maxLen:=by unfold maxLen;omega
  cases ea:ac with
  | none=>
   have k0:kc=0:=by
    obtain k0|k0:=mF kc;exact k0;have:=(h.cc k0).ad;rw[ea]at this;cases this
   have n0:x.A.length=0:=by have:=h.kl;omega
   have l0:a8m x pa pk=[]:=mR (N▸n0);rw[k0,l0,n0];have⟨r,w',r1,r2,r3,_⟩:=run_append_own (P:=prog) n n.heap.size 24 ty 70 i0 _ 8 80 underlying24 O aa E V rfl (by decide) (.slice none 0 0) 0 [] (ks n _ _ _) ad 1 c (fC (d,.slice Y m m)) rfl hz ab (by unfold maxLen;omega) (by decide) (hT _);exact⟨r,w',r1,r2,r3⟩
  | some b=>
   refine run_append_arg_grows (P:=prog) n 24 ty 70 i0 _ 8 80 underlying24 O aa E V rfl (by decide) b _ _ ((a8m x pa pk).flatMap fC) (by rw[a3t fC 8 (λ_=>rfl),N]) (λj u K=>?_) ad 1 c (fC (d,.slice Y m m)) rfl hz (by omega) X (by omega);have t:j<((a8m x pa pk).flatMap fC).length:=by
    obtain q|q:=km j ((a8m x pa pk).flatMap fC).length;exact q;rw[nT q]at K;cases K
   rw[a3t fC 8 (λ_=>rfl),N]at t;have hb:=h.hc (by omega);rw[ea]at hb;rw[Option.some.inj hb];exact b1g fC 8 (by omega) (λ_=>rfl) (a8m x pa pk) bc 0 (λi Z k J=>by rw[kO,c7i x pa pk i Z];exact rc n y i (by rw[N]at Z;exact Z) k J) j u K
 have⟨r,w',A,w,D⟩:=U;have eg:Ext n w':=⟨D.os,D.tape,D.output,D.size,λk J=>D.block k J (by simp)⟩;have vk:0<kH r:=by have:=b4e w;omega
 have⟨o1,o2,o3,o4,o5⟩:=b8z w vk;have vf:r=.slice (some ⟨qZ r,0,none⟩) (x.A.length+1) (kH r):=o1▸(a0d w).1;have Q:w'.ownsRow n.heap.size 70 8 r (a8m x pa pk++[(d,Value.slice Y m m)]).length ((a8m x pa pk++[(d,Value.slice Y m m)]).flatMap fC):=by
  rw[kV,N,nL];simpa using w
 have cz:=a6k (f:=fC) (λ_=>rfl) Q;have ai:(a8m x pa pk++[(d,Value.slice Y m m)]).length=x.A.length+1:=by rw[kV,N];rfl
 refine⟨qZ r,kH r,w',vf▸A,⟨λW e=>?_,(eg.block g F.nf.1).trans (y.block g h.nf.1),kA y.size eg.size,(hx.trans y).trans eg⟩⟩;have⟨b',ah⟩:=obE (qZ r);rw[<-ah]at o3 o4 o5 cz ⊢;have gb:g≠b':=λe=>by have:=F.nf.1;omega
 have M:∀j,(W.setCell ⟨g,4,none⟩ (.slice (some ⟨b',0,none⟩) (x.A.length+1) (kH r))).cell? ⟨b',j,none⟩=w'.cell? ⟨b',j,none⟩:=λj=>(uC _ (.inl gb)).trans ((cX e).1 b' j o3.1)
 have a:∀j,j<8->(W.setCell ⟨g,4,none⟩ (.slice (some ⟨b',0,none⟩) (x.A.length+1) (kH r))).cell? ⟨b',x.A.length*8+j,none⟩=(fC (d,.slice Y m m))[j]?:=λj t=>by
  rw[M,cz x.A.length (by omega) j t];have:(a8m x pa pk++[(d,Value.slice Y m m)])[x.A.length]'(by omega)=(d,Value.slice Y m m):=by rw[List.getElem_append_right (by omega)];simp[N]
  rw[this]
 have eW:Ext n W:=eg.trans e;have qg:l≠g:=λe=>by have:=np.lt;have:=h.nf.1;omega
 have o:=(np.ext eW).only (S:=λq=>q=g) (uQ.setCell (S:=λq=>q=g) (uQ.refl _ W) (p:=⟨g,4,none⟩) rfl (.slice (some ⟨b',0,none⟩) (x.A.length+1) (kH r))) qg;have ag:B<=b':=by have:=y.size;omega
 refine⟨_,_,_,_,_,_,_,_,_,_,_,h.newc r0 x.A.length (hT _) d b' (kH r) l Y m (by have:=eW.size;have:=y.size;simp only[World.setCell,Array.size_modify];omega) (.inr (by have:=y.size;omega)) (λq C L h2=>(kP _ _ _ _ L).trans ((y.trans eW).block q C)) ((F.nf.ext eW).set _ _) ?_ ((o3.ext e).set _ _) (λj t=>?_) ag (H▸b4e w) ⟨a 0 (by omega),a 1 (by omega),a 2 (by omega),a 3 (by omega),a 4 (by omega),a 5 (by omega),a 6 (by omega)⟩ (ml▸a 7 (by omega)) (λq C L j t=>?_) (λk J=>?_) (ml▸hT _) (λC=>⟨hY C,o.nf,o.lt,by have:=o.lt;omega,λe=>by have:=np.nf.1;omega⟩)⟩;have:=(F.bx.ext eW).set4 (.slice (some ⟨b',0,none⟩) (x.A.length+1) (kH r));rw[H];exact this;rw[M];exact o4 j t;rw[M,cz q (by omega) j t];have:(a8m x pa pk++[(d,Value.slice Y m m)])[q]'(by omega)=(x.c q,.slice (pa q) (x.c q).F.length (pk q)):=by rw[List.getElem_append_left (by omega)];exact c7i x pa pk q (by omega)
 rw[this];exact(rc w0 (hO _) q C j t).symm;rw[rep_p d m hm k];exact o.z k (by omega)
theorem b7x[qd]{ops:Array Oper}{o:Oper}{a:Act}{K:Act->World->Prop}{Q:Exit->Act->World->Prop}{E:Prop}(b:World)(e:o.guard=none)(s y:Operand)
  (r:o.op=.call { callee:=.builtin .append,args:=#[s,y],argTypes:=#[24,24] })
                (h:GAt B w0 g x ar kr ac kc vg br bc pb pa pk role) (D:0<x.B.length) (C:x.A.length<=8000) (d:Cl) (m:Nat) (w:d.F=List.replicate m Pr0) (f:Nat) (Y:Option Addr) (hY:0<m->Y=some (aA f 0)) (t:Ext w0 b) (np:a6i w0 b f m) (ad:Addr) (c:Nat)
  (A:a.eval s=.slice ac x.A.length kc) (q:a.eval y=.slice (some ad) 1 c) (n:∀j u,(fC (d,.slice Y m m))[j]?=some u->b.cell? (ad.add j)=some u) (v:World) (z:v.heap.size<=B) (p:Ext v w0)
  (F:∀b' k' w',AppC B g x d v w0 b' k' w'->K (a.put o.dst (sS b' (x.A.length+1) k')) w') :
  if Region.wanted o (yielded ops a.tmps)=true then Oper.wp prog o a b K Q else E:=by
 have l:Region.wanted o (yielded ops a.tmps)=true:=by simp[Region.wanted,e]
 rw[if_pos l];obtain⟨b',k',w',i,k⟩:=d2s h D C d m w f Y hY o.type b t np ad c n v z p;unfold Oper.wp execOp;simp only[r,resolve,invoke,builtin,Sem.run_bind,Sem.run_pure,Result.andThen_ok,List.map_toArray,List.map_cons,List.map_nil,A,q,i];exact F b' k' w' k
structure b3t(x z:Hp):Prop where
 hl:z.A.length=x.A.length
 rest:a2n z x
 c:∀q,(z.c q).st=(x.c q).st/\(z.c q).kind=(x.c q).kind/\(z.c q).born=(x.c q).born/\(z.c q).J=(x.c q).J/\(z.c q).to=(x.c q).to
 wk:∀q,(z.c q).T=(x.c q).T\/((x.c q).st=1/\0<=(z.c q).T/\(z.c q).T<=3)
 la:∀q,(z.c q).U=(x.c q).U\/((x.c q).st=1/\0<=(z.c q).U/\(z.c q).U<=3)
 sp:∀q,cK (z.c q)->cK (x.c q)
 p:∀q,q<x.A.length->∀k,k<(z.c q).F.length->∃j,j<(x.c q).F.length/\(z.c q).p k=(x.c q).p j/\(uV x=(q:Int)->((k:Int)<z.sub↔(j:Int)<x.sub))
 le:∀q,q<x.A.length->(z.c q).F.length<=(x.c q).F.length
 us:z.K=(dH z.A:Nat)
 ul:z.K<=x.K
 s0:0<=z.sub/\z.sub<=x.sub
 s1:∀q,q<x.A.length->uV x=(q:Int)->z.sub<=(z.c q).F.length
theorem b8p(a:x.E=5)(h:x.I<x.A.length):uV x=x.I:=by grind[Snd.I,uV]
theorem b8q(a:x.E=2)(h:0<x.D.length):uV x=x.D.getD 0 0:=by grind[uV]
theorem Snd.thin{x z:Hp}(h:Snd x)(t:b3t x z):Snd z:=by
 have⟨P,e2,H,s,A,B,e7,e8,e9,O⟩:=t.rest;have J:∀q,uW z q↔uW x q:=λq=>by unfold uW;rw[s,A,(t.c q).1,(t.c q).2.2.2.1]
 have Q:∀(y:Wd)(m M:Prop),(m->M)->hE x y m->hE z y M:=λy m M C l=>⟨t.hl▸l.1,λu=>by
  rw[(t.c _).1,J];obtain o|o:=l.2 u;grind;exact .inr o⟩
 have Z:∀y:Wd,dJ z y->dJ x y:=λy V=>⟨V.1,(t.c _).2.2.2.1▸V.2⟩
 have K:uD z↔uD x:=by unfold uD;rw[s]
 have s0:=t.s0;have T:x.D.length≠0->0<=x.D.getD 0 0/\x.D.getD 0 0<x.A.length:=λv=>by
  refine h.r5.2.2 _ ?_;cases L:x.D with
  | nil=>rw[L]at v;simp at v
  | cons g G=>simp
 refine⟨?_,⟨λq f=>?_,λq f h0 k u=>?_⟩,⟨t.us,?_⟩,⟨λi Y=>?_,λq f=>⟨λd=>?_,λk u=>?_⟩⟩,⟨λC=>?_,λq f=>?_,λg v=>?_⟩,⟨λn=>?_,λn=>?_,λn=>?_,λn=>?_⟩,λC q f=>⟨λN=>?_,λk u=>?_⟩,λq f=>?_⟩;have r:=h.r1;exact⟨P▸r.M,H▸r.B,by rw[t.hl,P];exact r.A,by rw[B,t.hl];exact r.D,e2▸r.born,e9▸r.Q,O▸r.S,e7▸r.per,e8▸r.V,s▸r.E,by rw[A,t.hl];exact r.I,by have:=r.sub;omega⟩;rw[t.hl]at f;have E:=h.r2.1 q f;have⟨c1,c2,c3,c4,F⟩:=t.c q;have l:=t.le q f;have wk:=t.wk q;have la:=t.la q;unfold cZ;obtain⟨o,b,d⟩|⟨o,m⟩|⟨o,m⟩:=E
 ·grind[a5g,Grw.at]
 refine .inr (.inl ⟨c1▸o,?_,s▸m.2.1,F▸m.2.2.1,F▸m.2.2.2.1,by rw[F,(t.c _).1];exact m.2.2.2.2.1,λn k u=>?_⟩)
 ·have b:=m.1;unfold a5g at b ⊢;omega
 rw[(t.c k).1];rw[s]at n;rw[F]at u;exact m.2.2.2.2.2 n k u;grind[a2q,Grw.at];rw[t.hl]at f;rw[(t.c q).1]at h0;rw[(t.c k).1,(t.c k).2.2.1,(t.c k).2.2.2.2,(t.c q).1,(t.c q).2.2.1,(t.c q).2.2.2.2];exact h.r2.2 q f h0 k u;rw[P];have:=h.r3.2;have:=t.ul;omega;have e:z.B[i]=x.B[i]'(H▸Y):=by simp only[H]
 rw[e];exact Q _ _ _ id (h.r4.1 i (H▸Y));rw[t.hl]at f;exact(h.r4.2 q f).1 ⟨(J q).1 d.1,t.sp q d.2⟩;rw[t.hl]at f;have⟨j,U,S,I⟩:=t.p q f k u;have E:=(h.r4.2 q f).2 j U;rw[S];have X:cN z q k->cN x q j:=λm=>⟨s▸m.1,λn=>by grind[cN,Grw.at,b8p]⟩
 refine⟨λd=>?_,λd=>?_⟩;rw[t.hl];exact E.1 ((J q).1 d);have:=E.2 (λd2=>d ((J q).2 d2));exact⟨Q _ _ _ (λa b=>a (X b)) this.1,Q _ _ _ (λa b=>a (X b)) this.2⟩;rw[B];exact h.r5.1 (λm=>C (K.2 m));rw[t.hl]at f;have o:=h.r5.2.1 q f;unfold a0n at o ⊢;rw[(t.c q).2.2.2.1,B,K,s,A];exact o;rw[B]at v;rw[t.hl];exact h.r5.2.2 g v;rw[s]at n;have:=h.r6.1 n;rw[A];omega;rw[s]at n;have r:=h.r6.2.1 n;rw[A,B];refine⟨r.1,λv=>by have:=r.2.1 v;omega,λv=>?_⟩;have gr:=T v;have e:z.g0=x.g0:=by unfold Hp.g0;rw[B]
 rw[e];refine t.s1 x.g0 (by unfold Hp.g0;omega) ?_;rw[b8q n (by omega)];unfold Hp.g0;omega;rw[s]at n;have hh:=h.r1.I;rw[A,t.hl];refine⟨λf=>?_,λf=>?_⟩
 ·rw[(t.c _).1]at f;have:=(h.r6.2.2.1 n).1 f;omega
 refine t.s1 _ (by omega) ?_;rw[b8p n (by omega)];omega;rw[s]at n;have:=h.r6.2.2.2 n;omega;rw[t.hl]at f;refine(h.r7 (K.1 C) q f).1 ⟨t.sp q N.1,(t.c q).2.2.2.1▸N.2.1,?_⟩;have:=N.2.2;rw[s,A]at this;exact this;rw[t.hl]at f;have D:k<(z.c q).F.length/\∀j:Nat,(uV x=(q:Int)->((k:Int)<z.sub↔(j:Int)<x.sub))->j<(x.c q).F.length->j<eH x q:=by
  unfold eH at u;rw[(t.c q).2.2.2.1,s,B]at u;split at u;grind[eH];rename_i hc;split at u
  ·rename_i R;have W:uV x=(q:Int):=b8q R.1 (by omega)▸R.2.2;have:=t.s1 q f W;refine⟨by omega,λj I _=>?_⟩;unfold eH;rw[if_neg hc,if_pos R];have:=(I W).1 (by omega);omega
  omega
 have⟨j,U,S,I⟩:=t.p q f k D.1;rw[S];have:=((h.r7 (K.1 C) q f).2) j (D.2 j I U);exact⟨λw=>this.1 (Z _ w),λw=>this.2 (Z _ w)⟩;rw[t.hl]at f;rw[s,A,(t.c q).1];exact h.r8 q f
theorem b2p{α:Type}(f:α->Bool)(d:α):∀(l:List α)(k:Nat),k<(l.filter f).length->∃j,j<l.length/\(l.filter f).getD k d=l.getD j d/\∀s,(k<((l.take s).filter f).length↔j<s)
 | [],k,h=>by simp at h
 | a::l,k,h=>by
  cases fa:f a
  rw[n9 (by simp[fa])]at h ⊢;have⟨j,h1,h2,h3⟩:=b2p f d l k h;refine⟨j+1,by simp;omega,by rw[h2];rfl,λs=>?_⟩;cases s with
  | zero=>simp
  | succ s=>
   rw[List.take_succ_cons,n9 (by simp[fa]),h3 s];omega
  rw[qA fa]at h ⊢;cases k with
  | zero=>
   refine⟨0,by simp,rfl,λs=>?_⟩;cases s with
   | zero=>simp
   | succ s=>rw[List.take_succ_cons,qA fa];simp
  | succ k=>
   have⟨j,h1,h2,h3⟩:=b2p f d l k (by simp at h;exact h);refine⟨j+1,by simp;omega,by exact h2,λs=>?_⟩;cases s with
   | zero=>simp
   | succ s=>
    rw[List.take_succ_cons,qA fa,mS];have:=h3 s;omega
theorem sum_any(x:Hp)(b r1:Nat)(a:List Nat)(w:World){ac:Nat->Option Addr}(s g:Nat)(h:VNt w b x ar kr ac (some (aA s g)) kn)(W:tD w r1 s (a.map (λi=>g+i*2)))(Y:r1<w.heap.size)(X:x.A.length<=8000)(j:∀i,i<x.A.length->(x.c i).F.length<=200):
  Calls prog 230 #[pP b,.map (some r1)] w λe w'=>∃u:Nat,Hid (e=.returned (iv (u:Int)))/\Hid (u=yW x (λi=>decide (i∈a)) x.A.length)/\Ext w w':=by
 have y:=h.n13;have HV:=uU h;go_in;go_wp21;go_loopw [5,13] (λn i wr=>∃(k u:Nat),k<=x.A.length/\i=iv k/\n=iv u/\Hid (u=yW x (λi=>decide (i∈a)) k)/\Ext w wr) (λ_ i _=>x.A.length-(intOf i).toNat)
 case atStart=>exact⟨0,0,kB _,rfl,rfl,rfl,hO w⟩
 case round=>
  obtain⟨k,u,t,rfl,rfl,r,d⟩:=hrel;have F:u<=201*k:=by have:=uH r;rw[this];exact (λk t=>c1v (p:=λi=>decide (i∈a)) j k t) k t
  by_cases l:k<x.A.length
  ·have y:=(HV.ext d).n13;have hl:=j k l;have Q:=i0N k;have B:(k:Int)<(x.A.length:Int):=by omega
   have V:=W.block (d.block r1 Y);go_wp21;refine(a8i r1 s (g+k*2) _ _ V).mono ?_;rintro e w1 ⟨rfl,C⟩;have q:=d.trans C;by_cases m:k∈a
   ·have E:decide (g+k*2∈a.map (λi=>g+i*2))=true:=decide_eq_true (a5v.2 m);rw[E];have z:=uU (show u+(1+(x.c k).F.length)=yW x (λi=>decide (i∈a)) (k+1) by have:=uH r;simp only[yW,decide_eq_true m];simp;omega);obtain⟨b',o,D,O,I,p0,p1,p2,p3,p4,p5,p6,S,J,P⟩:=(HV.ext q).H.cell k l;have⟨T,K,bc,oc,R,A,m0,L⟩:=(HV.ext q).N k l;rw[I]at A;cases R;cases A;go_wp21;refine(b1o (x.c k) s (g+k*2) _ _ D O _ L S J).mono ?_;rintro e Z ⟨rfl,rfl⟩;go_wp2;go_roundw
    case rel=>exact⟨k+1,u+(1+(x.c k).F.length),by omega,by go_num,by go_num,z,q⟩
    simp[intOf];omega
   have E:decide (g+k*2∈a.map (λi=>g+i*2))=false:=decide_eq_false (λf=>m (a5v.1 f));rw[E];go_wp2;go_roundw
   case rel=>exact⟨k+1,u,by omega,by go_num,rfl,(show u=yW x (λi=>decide (i∈a)) (k+1) by have:=uH r;simp only[yW,decide_eq_false m];simp;exact this),q⟩
   simp[intOf];omega
  have v:k=x.A.length:=by omega
  go_wp2;go_ret;exact⟨u,rfl,(show u=yW x (λi=>decide (i∈a)) x.A.length by have:=uH r;rw[v]at this;exact this),d⟩
theorem c6m(b x p n:Nat)(G:List Int)(w:World)(h:RAt w b x p G)(A:∀i,i<n->w.cell? (aA x (i*2))=some (iv i))(B:∀g,g∈G->0<=g/\g<n):
  Calls prog 89 #[pQ b 15] w λe w'=>e=.returned (sS w.heap.size G.length G.length)/\SlI w' (sS w.heap.size G.length G.length) G/\Nf1 w.heap.size w'/\Ext w w':=by
 have C:=h.r1;have U:=h.hl;have H:=uU h;have D:=uU A;have E:=uU B;have⟨z,s⟩:=mkInts G.length (by omega) w;clear h A B;go_in;go_wp21;go_loopw [12] (λi wr=>∃(k:Nat),k<=G.length/\i=iv k/\Hid ((∀j (c:j<G.length),j<k->a8k wr w.heap.size (0+j*1) G[j])/\(∀j,j<G.length*1->tJ wr w.heap.size j)/\Ext w wr/\Nf1 w.heap.size wr)) (λi _=>G.length-(intOf i).toNat)
 case atStart=>exact⟨0,kB _,rfl,(λj _ h=>by omega),(λj c=>a7y _ _ _ _ _ (by omega)),(hO w).alloc _,Nf1.made _ _ _ _⟩
 case round=>
  clear s C;obtain⟨k,y,rfl,a⟩:=hrel;by_cases f:k<G.length
  ·have l:=a.2.2.1;have⟨m,o⟩:=obE ((p+k) % 4000);have J:m<4000:=o▸mN _ (by omega);have T:((p:Int)+(k:Int)).tmod 4000=(m:Int):=by have:=b5o (p+k);rw[<-o]at this;simpa using this
   have W:=i0N m;have M:(m:Int)<4000:=by omega
   have I:=uH E G[k] (ki f);have⟨j,c⟩:∃j:Nat,G[k]=(j:Int):=⟨G[k].toNat,by omega⟩;have q:j<n:=by omega
   have N:=l.keep H.r0;have Q:=H.h0;have t:=l.keep (H.rg k f);rw[<-o,c]at t;have t:wr.cell? (aA b (15+m))=some (pQ x (j*2)):=t;have P:=l.keep (D j q);have R:=d0y (w:=w) (wr:=wr) (xs:=G) (k:=k) f a.1 a.2.1 l a.2.2.2;rw[c]at R;have⟨⟨u,O⟩,X⟩:=a.2.1 k (by omega);have V:=i0N k;have S:(k:Int)<(G.length:Int):=by omega
   have v:¬w.heap.size=b:=λe=>by have:=uZ H.r0;simp only at this;omega
   have F:¬b=w.heap.size:=λe=>v e.symm
   clear I c o;go_wp21;go_region;all_goals
    go_wp21;go_roundw
    case rel=>
     have d:=(hO (wr.setCell (aA w.heap.size k) (iv j))).drew;exact⟨k+1,by omega,by go_num,λj c y=>(R.1 j c y).ext d,λj c=>(R.2.1 j c).ext d,R.2.2.1.drew,R.2.2.2.ext d⟩
    simp[intOf];omega
  have r:k=G.length:=by omega
  clear r;go_wp21;go_ret;exact⟨rfl,(show SlI wr (sS w.heap.size G.length G.length) G from⟨_,_,rfl,by omega,λi K=>⟨_,_,rfl,a.1 i K (by omega)⟩⟩),a.2.2.2,a.2.2.1⟩
theorem uQ.setNew{a:World}(h:uQ S a w){p:Addr}(d:a.heap.size<=p.block)(u:Value):uQ S a (w.setCell p u):=
 ⟨h.os,h.tape,h.output,by have:=h.size;simpa[World.setCell]using this,λk b c=>(kP _ _ _ _ (by omega)).trans (h.block k b c)⟩
structure Tdl(w1 wr:World)(x:Hp)(t bN:Nat)(vr vc vg:Value)(pa:Nat->Option Addr)(pk:Nat->Nat)(k:Nat):Prop where
 bx:cY wr t x vr vc vg
 s:∀q,q<x.A.length->q<k->S7 wr bN (q*8) (x.c q)/\wr.cell? ⟨bN,q*8+7,none⟩=some (.slice (pa q) (x.c q).F.length (pk q))
 o:∀j,j<x.A.length*8->tJ wr bN j
 nf:Nf1 bN wr
 on:uQ (λq=>q=t) w1 wr
 lt:t<w1.heap.size/\w1.heap.size<=bN
theorem Tdl.step{w1 wr:World}{t bN:Nat}{vr vc:Value}{k:Nat}(h:Tdl w1 wr x t bN vr vc vg pa pk k)(C:k<x.A.length):
  Tdl w1 ((((((((wr.setCell (aA bN (k*8)) (iv (x.c k).st)).setCell (aA bN (k*8+1)) (iv (x.c k).kind)).setCell (aA bN (k*8+2)) (iv (x.c k).T)).setCell (aA bN (k*8+3)) (iv (x.c k).U)).setCell (aA bN (k*8+4)) (iv (x.c k).born)).setCell (aA bN (k*8+5)) (iv (x.c k).J)).setCell (aA bN (k*8+6)) (iv (x.c k).to)).setCell (aA bN (k*8+7)) (.slice (pa k) (x.c k).F.length (pk k))).drew x t bN vr vc vg pa pk (k+1):=by
 have a:=h.lt;have n:tJ wr bN (k*8):=h.o (k*8) (by omega);have u:=h.o (k*8+1) (by omega);have A:=h.o (k*8+2) (by omega);have z:=h.o (k*8+3) (by omega);have v:=h.o (k*8+4) (by omega);have m:=h.o (k*8+5) (by omega);have y:=h.o (k*8+6) (by omega);have w:=h.o (k*8+7) (by omega);have d:∀b o,(b≠bN\/o<k*8\/k*8+8<=o)->(((((((((wr.setCell (aA bN (k*8)) (iv (x.c k).st)).setCell (aA bN (k*8+1)) (iv (x.c k).kind)).setCell (aA bN (k*8+2)) (iv (x.c k).T)).setCell (aA bN (k*8+3)) (iv (x.c k).U)).setCell (aA bN (k*8+4)) (iv (x.c k).born)).setCell (aA bN (k*8+5)) (iv (x.c k).J)).setCell (aA bN (k*8+6)) (iv (x.c k).to)).setCell (aA bN (k*8+7)) (.slice (pa k) (x.c k).F.length (pk k))).drew).cell? (aA b o)=wr.cell? (aA b o):=λb o i=>by
  rw[a0u,uC _ (by omega),uC _ (by omega),uC _ (by omega),uC _ (by omega),uC _ (by omega),uC _ (by omega),uC _ (by omega),uC _ (by omega)]
 have f:∀b o,tJ wr b o->tJ ((((((((wr.setCell (aA bN (k*8)) (iv (x.c k).st)).setCell (aA bN (k*8+1)) (iv (x.c k).kind)).setCell (aA bN (k*8+2)) (iv (x.c k).T)).setCell (aA bN (k*8+3)) (iv (x.c k).U)).setCell (aA bN (k*8+4)) (iv (x.c k).born)).setCell (aA bN (k*8+5)) (iv (x.c k).J)).setCell (aA bN (k*8+6)) (iv (x.c k).to)).setCell (aA bN (k*8+7)) (.slice (pa k) (x.c k).F.length (pk k))).drew b o:=λb o i=>((((((((i.set _ _).set _ _).set _ _).set _ _).set _ _).set _ _).set _ _).set _ _).ext (eDr _)
 refine⟨h.bx.of λo _=>d t o (.inl (by omega)),λq r B=>?_,λj l=>f bN j (h.o j l),((((((((h.nf.set _ _).set _ _).set _ _).set _ _).set _ _).set _ _).set _ _).set _ _).ext (eDr _),?_,a⟩;by_cases e:q=k
 ·subst e;refine⟨⟨?_,?_,?_,?_,?_,?_,?_⟩,?_⟩
  ·rw[a0u,uC _ (by omega),uC _ (by omega),uC _ (by omega),uC _ (by omega),uC _ (by omega),uC _ (by omega),uC _ (by omega)];exact n.same _
  rw[a0u,uC _ (by omega),uC _ (by omega),uC _ (by omega),uC _ (by omega),uC _ (by omega),uC _ (by omega)];exact(u.set _ _).same _;rw[a0u,uC _ (by omega),uC _ (by omega),uC _ (by omega),uC _ (by omega),uC _ (by omega)];exact((A.set _ _).set _ _).same _;rw[a0u,uC _ (by omega),uC _ (by omega),uC _ (by omega),uC _ (by omega)];exact(((z.set _ _).set _ _).set _ _).same _;rw[a0u,uC _ (by omega),uC _ (by omega),uC _ (by omega)];exact((((v.set _ _).set _ _).set _ _).set _ _).same _;rw[a0u,uC _ (by omega),uC _ (by omega)];exact(((((m.set _ _).set _ _).set _ _).set _ _).set _ _).same _;rw[a0u,uC _ (by omega)];exact((((((y.set _ _).set _ _).set _ _).set _ _).set _ _).set _ _).same _;rw[a0u];exact(((((((w.set _ _).set _ _).set _ _).set _ _).set _ _).set _ _).set _ _).same _
 have g:=h.s q r (by omega);exact⟨g.1.of λj l=>d bN _ (.inr (by omega)),(d bN _ (.inr (by omega))).trans g.2⟩;exact((((((((h.on.setNew (p:=(aA bN (k*8))) a.2 _).setNew (p:=(aA bN (k*8+1))) a.2 _).setNew (p:=(aA bN (k*8+2))) a.2 _).setNew (p:=(aA bN (k*8+3))) a.2 _).setNew (p:=(aA bN (k*8+4))) a.2 _).setNew (p:=(aA bN (k*8+5))) a.2 _).setNew (p:=(aA bN (k*8+6))) a.2 _).setNew (p:=(aA bN (k*8+7))) a.2 _).drew
theorem c3x[qd]{a4:Option Addr}{n4 k4:Nat}{a8:Option Addr}{n8 k8:Nat}(w:World)
  (h:SAt B w b x ar kr (.slice a4 n4 k4) (.slice a8 n8 k8) br cB cO bn pb pa pk kn hd vf F vk K role) (hG:∀g,g∈x.D->0<=g/\g<x.A.length) (hr:0<x.B.length) (l:x.B.length<=100/\x.A.length<=8000/\x.D.length<=8000/\∀q,q<x.A.length->(x.c q).F.length<=200) (hB:B<=w.heap.size) :
  Calls prog 41 #[pP b] w λe w'=>∃bcN bgN,e=.returned (x.v (sS br x.B.length kr) (sS bcN x.A.length x.A.length) (sS bgN x.D.length x.D.length))/\Hid (b3u B w'.heap.size w' x br kr bcN x.A.length bgN x.D.length pb pa pk)/\Ext w w':=by
 have H:=uU h;obtain⟨c0,c1,c2,c3,c4,c5,c6,c7,c8,c9,ah,al,ak⟩:=h.sb.bx;rw[h.sb.ha hr]at c3;have hb:=h.sb.nb.1;have HG:=uU hG;have HL:=uU l;have T:=(eAl w (oH0)).alloc (oHp x (sS br x.B.length kr) (.slice a4 n4 k4) (.slice a8 n8 k8));have B1:=cY.new (w.alloc (oH0)) x (sS br x.B.length kr) (.slice a4 n4 k4) (.slice a8 n8 k8) 27;have ab:(w.alloc (oH0)).heap.size=w.heap.size+1:=by simp
 rw[ab]at B1;have D:((w.alloc (oH0)).alloc (oHp x (sS br x.B.length kr) (.slice a4 n4 k4) (.slice a8 n8 k8))).heap.size=w.heap.size+2:=by simp
 go_in;go_wp21;refine(c6m b bn hd x.A.length x.D _ (H.ext T).sb.rg (λi hi=>((H.ext T).sb.nd i hi).1) HG).mono ?_;rintro e m ⟨rfl,M,G,N⟩;rw[D]at M G ⊢;have ag:w.heap.size+2<m.heap.size:=G.1;have E:=uU (B1.ext N);have X1:=T.trans N;have GS:=uU (kG M G);have d8:=E.2.2.2.2.2.2.2.2.1;have d4:=E.2.2.2.2.1;have fz:∀o,m.frozen? (aA (w.heap.size+1) o)=false:=λo=>((cX N).2 (w.heap.size+1) o (by rw[D];omega)).trans (by simp[go_sem])
 have rc:=uU (show ∀o v,((w.alloc (oH0)).alloc (oHp x (sS br x.B.length kr) (.slice a4 n4 k4) (.slice a8 n8 k8))).cell? (aA w.heap.size o)=some v->m.cell? (aA w.heap.size o)=some v from λo v h=>N.keep h);have RF:=uU (show ∀o,m.frozen? (aA w.heap.size o)=false from λo=>((cX N).2 w.heap.size o (by rw[D];omega)).trans (by simp[go_sem]));have Q:=(H.ext X1).sb.n13;obtain⟨z,U⟩:=mkCells x.A.length (by omega) (m.setCell (aA (w.heap.size+1) 8) (sS (w.heap.size+2) x.D.length x.D.length));have u:(m.setCell (aA (w.heap.size+1) 8) (sS (w.heap.size+2) x.D.length x.D.length)).heap.size=m.heap.size:=by simp[World.setCell]
 rw[u]at U;have aj:b<m.heap.size:=by omega
 have ac:w.heap.size+1<m.heap.size:=by omega
 go_wp21;have ST:=uU (show Tdl m (((m.setCell (aA (w.heap.size+1) 8) (sS (w.heap.size+2) x.D.length x.D.length)).setCell (aA (w.heap.size+1) 4) (sS m.heap.size x.A.length x.A.length)).alloc (.cells (madeCells z (x.A.length*8)) 70)) x (w.heap.size+1) m.heap.size (sS br x.B.length kr) (sS m.heap.size x.A.length x.A.length) (sS (w.heap.size+2) x.D.length x.D.length) pa pk 0 from by
  have hs:((m.setCell (aA (w.heap.size+1) 8) (sS (w.heap.size+2) x.D.length x.D.length)).setCell (aA (w.heap.size+1) 4) (sS m.heap.size x.A.length x.A.length)).heap.size=m.heap.size:=by simp[World.setCell]
  refine⟨((E.set8 _).set4 _).ext (eAl _ _),λq _ h=>by omega,λj hj=>?_,?_,?_,⟨ac,hT _⟩⟩;have:=a7y ((m.setCell (aA (w.heap.size+1) 8) (sS (w.heap.size+2) x.D.length x.D.length)).setCell (aA (w.heap.size+1) 4) (sS m.heap.size x.A.length x.A.length)) z (x.A.length*8) 70 j hj;rw[hs]at this;exact this;have:=Nf1.made ((m.setCell (aA (w.heap.size+1) 8) (sS (w.heap.size+2) x.D.length x.D.length)).setCell (aA (w.heap.size+1) 4) (sS m.heap.size x.A.length x.A.length)) z (x.A.length*8) 70;rw[hs]at this;exact this;exact(uQ.setCell (S:=λq=>q=w.heap.size+1) (tE m (w.heap.size+1) 8 _) (p:=(aA (w.heap.size+1) 4)) rfl _).trans (uQ.of_ext (eAl _ _)))
 go_loopw [29] (λi wr=>∃(k:Nat),k<=x.A.length/\i=iv k/\Hid (Tdl m wr x (w.heap.size+1) m.heap.size (sS br x.B.length kr) (sS m.heap.size x.A.length x.A.length) (sS (w.heap.size+2) x.D.length x.D.length) pa pk k)) (λi _=>x.A.length-(intOf i).toNat)
 case atStart=>exact⟨0,kB _,rfl,ST⟩
 case round=>
  obtain⟨k,Y,rfl,d⟩:=hrel;have C:Ext w wr:=d.on.ext X1 (λq r e=>by omega);by_cases A:k<x.A.length
  ·have R:=uU (d.step A);have c4:=d.bx.2.2.2.2.1;have Q:=(H.ext C).sb.n13;obtain⟨m0,m1⟩:=(H.ext C).sb.nd k A;obtain⟨p0,p1,p2,p3,p4,p5,p6⟩:=(H.ext C).rw.s k A;have p7:=(H.ext C).rw.p7 k A;obtain⟨⟨u0,o0⟩,f0⟩:tJ wr m.heap.size (k*8):=d.o (k*8) (by omega);obtain⟨⟨u1,o1⟩,f1⟩:=d.o (k*8+1) (by omega);obtain⟨⟨u2,o2⟩,f2⟩:=d.o (k*8+2) (by omega);obtain⟨⟨u3,o3⟩,f3⟩:=d.o (k*8+3) (by omega);obtain⟨⟨u4,o4⟩,f4⟩:=d.o (k*8+4) (by omega);obtain⟨⟨u5,o5⟩,f5⟩:=d.o (k*8+5) (by omega);obtain⟨⟨u6,o6⟩,f6⟩:=d.o (k*8+6) (by omega);obtain⟨⟨u7,o7⟩,f7⟩:=d.o (k*8+7) (by omega);have k0:=i0N k;have k1:(k:Int)<(x.A.length:Int):=by omega
   go_wp21;go_region;all_goals
    go_wp2;go_roundw
    case rel=>exact⟨k+1,by omega,by go_num,R⟩
    simp[intOf];omega
  have Z:k=x.A.length:=by omega
  subst Z;have WB:∀q,q<m.heap.size->q≠w.heap.size+1->wr.heap[q]?=m.heap[q]?:=λq r I=>d.on.block q r I
  have SR:=uU (H.ext C);have GR:=uU (show SlI wr (sS (w.heap.size+2) x.D.length x.D.length) x.D/\Nf1 (w.heap.size+2) wr from by
   have e:=WB (w.heap.size+2) (by omega) (by omega);refine⟨yN.mono2 GS.1 λb' o n c z o' y hy=>?_,uY GS.2 e d.on.size⟩;simp only[Value.slice.injEq,Option.some.injEq,Addr.mk.injEq]at z;obtain⟨⟨rfl,_,_⟩,_,_⟩:=z;exact(cOb (w.heap.size+2) o' e).trans hy)
  have RW:=uU (show ∀W,uQ (λq=>q=w.heap.size) wr W->b3u B W.heap.size W x br kr m.heap.size x.A.length (w.heap.size+2) x.D.length pb pa pk from λW o=>by
   have rw:=SR.rw;have P:=H.rw.nr hr;have lp:=λq r J=>H.rw.pl q r J
   have u:=o.size;have L:=d.nf.1;have t:=rw.only o (λJ e=>by have:=P.1.1;omega) (λq r e=>by have:=(H.rw.nc q r).1.1;omega) (λq r J e=>by have:=(lp q r J).2.1.1;omega);refine⟨t.slW kr (λ_=>rfl) (by have:=HL.1;omega),λq r=>?_,λq r=>?_,?_,λq r=>?_,λq r J=>?_,(t.nr hr).1,?_,?_,⟨by have:=P.1.1;omega,by have:=P.1.1;omega,by omega⟩,λq q' r O I h1 h2=>t.dp q q' r O I (t.pw r h1) (t.pw O h2),⟨⟨P.2,by have:=P.1.1;have:=C.size;omega⟩,⟨by omega,by omega⟩,⟨by omega,by omega⟩⟩,HL,t.kp⟩;exact(d.s q r r).1.of λj _=>cOb m.heap.size _ (o.block m.heap.size L (by omega))
   refine⟨_,_,rfl,by have:=HL.2.2.2 q r;omega,λk Y=>⟨pb q,0,(t.pl q r (t.pw r (by omega))).1,?_⟩⟩;rw[kO,Cl.p_eq _ _ Y];exact t.p q r k Y;refine yN.mono2 GR.1 λb' o2 n c z o' y hy=>?_
   simp only[Value.slice.injEq,Option.some.injEq,Addr.mk.injEq]at z;obtain⟨⟨rfl,_,_⟩,_,_⟩:=z;exact o.keep (by omega) hy;exact o.keep (by omega) (d.s q r r).2;obtain⟨a1,a2,a3,a4⟩:=t.pl q r (t.pw r J);have:=(lp q r (t.pw r J)).2.1.1;exact⟨a1,a2.n1,⟨a3.1,by omega,by omega⟩,a4,by have:=C.size;omega⟩;exact uY d.nf (o.block m.heap.size L (by omega)) u;exact uY GR.2 (o.block (w.heap.size+2) GR.2.1 (by omega)) u)
  have f:∀o v,((w.alloc (oH0)).alloc (oHp x (sS br x.B.length kr) (.slice a4 n4 k4) (.slice a8 n8 k8))).cell? (aA w.heap.size o)=some v->wr.cell? (aA w.heap.size o)=some v:=λo v h=>(cOb w.heap.size o (WB w.heap.size (by omega) (by omega))).trans (rc o v h)
  have ai:∀o,wr.frozen? (aA w.heap.size o)=false:=λo=>(fOb w.heap.size o (WB w.heap.size (by omega) (by omega))).trans (RF o)
  have r0:=f 0 (iv 0) (by simp[go_sem]);have r1:=f 1 (iv 0) (by simp[go_sem]);have r2:=f 2 (iv 0) (by simp[go_sem]);have r3:=f 3 (.slice none 0 0) (by simp[go_sem]);have r4:=f 4 (.slice none 0 0) (by simp[go_sem]);have r5:=f 5 (iv 0) (by simp[go_sem]);have r6:=f 6 (iv 0) (by simp[go_sem]);have r7:=f 7 (iv 0) (by simp[go_sem]);have r8:=f 8 (.slice none 0 0) (by simp[go_sem]);have r9:=f 9 (iv 0) (by simp[go_sem]);have aa:=f 10 (iv 0) (by simp[go_sem]);have X:=f 11 (iv 0) (by simp[go_sem]);have V:=f 12 (iv 0) (by simp[go_sem]);obtain⟨b0,b1,b2,b3,b4,b5,b6,b7,b8,b9,af,ae,ad⟩:=d.bx;go_wp2;refine bodyPost_ret (v:=x.v (sS br x.B.length kr) (sS m.heap.size x.A.length x.A.length) (sS (w.heap.size+2) x.D.length x.D.length)) (by simp[results,results41,go_sem,r0,r1,r2,r3,r4,r5,r6,r7,r8,r9,aa,X,V]) rfl ⟨_,_,rfl,?_⟩;refine(λ(F:uQ (λq=>q=w.heap.size) wr _)=>⟨uH RW _ F,F.ext C (λq r e=>by omega)⟩) ?_;repeat (first|refine uQ.setCell ?_ (by simp) _|exact uQ.refl _ _)
end Go.Proofs.YtolmnenlnpbcfaaGreatDoor
