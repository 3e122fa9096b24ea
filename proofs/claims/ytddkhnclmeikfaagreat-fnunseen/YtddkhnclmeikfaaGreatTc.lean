import Derived.Test.YtddkhnclmeikfaaGreatSh4
import Derived.Test.YtddkhnclmeikfaaGreatDsn
import Derived.Test.YtddkhnclmeikfaaGreatPh
import Derived.Test.YtddkhnclmeikfaaGreatPl
import Derived.Test.YtddkhnclmeikfaaGreatPza
import Derived.Test.YtddkhnclmeikfaaGreatOw
set_option maxRecDepth 100000
set_option maxHeartbeats 4000000
namespace Go.Proofs.YtddkhnclmeikfaaGreat
open Go.RowKit Go.Proofs.Tryz
attribute [local go_sem ↓] Go.wp_at_zero Go.wp_at_succ
variable{B C b:Nat}{w:World}{x y:Hp}
def SOq[Inhabited uQ](C B:Nat)(w:World)(b:Nat)(x:Hp):Prop:=∃ar kr a4 n4 k4 a8 m8 k8 br cB cO bn pb pa pk kn hd vf F vk K role,SAt B w b x ar kr (.slice a4 n4 k4) (.slice a8 m8 k8) br cB cO bn pb pa pk kn hd vf F vk K role/\zW C x F K/\2*x.M<=(kn:Int)/\(default:uQ).z bn=none
theorem b3o(x:Hp)(y:Wd):(shadeW x y).M=x.M:=by grind [shadeW,cU]
theorem b2r:∀(ys:List Wd) (z:Hp),(ys.foldl shadeW z).M=z.M
 | [],_=>rfl
 | y::ys,z=>(b2r ys (shadeW z y)).trans (b3o z y)
theorem uroom1(x:Hp):(dC x).M=x.M:=by
 unfold dC
 split
 ·rfl
 ·grind [yZ,Hp.c,SAt.I,Snd.I,cU,dC]
theorem uroom2(x:Hp):(cX x).M=x.M:=by
 unfold cX
 split
 ·grind [b3o,cX]
 ·split
  ·exact b2r x.B x
  ·exact b2r x.B x
theorem b9v(x:Hp):(cY x).M=x.M:=by
 unfold cY
 split
 ·rfl
 ·split <;> rfl
theorem uroom4(x:Hp):(unit4 x).M=x.M:=by
 unfold unit4
 split <;> rfl
theorem uroom5(x:Hp):(cV x).M=x.M:=by
 unfold cV
 split
 ·rfl
 ·split <;> rfl
theorem d2q(x:Hp):(hE x).M=x.M:=by
 unfold hE qE
 split
 ·rfl
 ·split <;> rfl
theorem c8x[Inhabited uQ](h:SOq C B w b x)(s:Snd x)(c:x.E=1)(a:World)(l:a.heap.size<=B)(k:Ext a w):
  Calls prog 328 #[.agg #[pP b]] w λe w'=>e=.returned (zV (dC x).E b)/\Hid (SOq C B w' b (dC x))/\Ext a w':=by
 obtain⟨q,H,A,u,E,N,P,v,O,M,I,o,D,r,L,n,G,t,F,y,K,j,h,i,m⟩:=h;have J:=s.r1.I;have g:2*(dC x).M<=(n:Int)/\(default:uQ).z o=none:=by rw[uroom1];exact m
 by_cases p:x.I=x.A.length
 ·refine(c8i h c p a l k).mono ?_;rintro e w' ⟨rfl,f,d⟩;exact⟨rfl,⟨_,_,_,_,_,_,_,_,_,_,_,_,_,_,_,_,_,_,_,_,_,_,f,inv1 i c,g⟩,d⟩
 ·refine(c5c h s c x.I.toNat (by omega) (by omega) a l k).mono ?_;rintro e w' ⟨rfl,f,d⟩;exact⟨rfl,⟨_,_,_,_,_,_,_,_,_,_,_,_,_,_,_,_,_,_,_,_,_,_,f,inv1 i c,g⟩,d⟩
theorem c8y[Inhabited uQ]{C B:Nat}{w:World}{b:Nat}{x:Hp}(h:SOq C B w b x)(s:Snd x)(d:x.E=2)(a:World)(p:a.heap.size<=B)(o:Ext a w):
  Calls prog 329 #[.agg #[pP b]] w λe w'=>e=.returned (zV (cX x).E b)/\Hid (SOq C B w' b (cX x))/\Ext a w':=by
 obtain⟨y,P,L,E,N,U,W,H,V,T,Q,u,M,A,S,t,O,D,F,I,K,q,h,i,r⟩:=h;have R:=s.r1.sub;have m:=s.ok.n8;have n:2*(cX x).M<=(t:Int)/\(default:uQ).z u=none:=by rw[uroom2];exact r
 cases l:x.D with
 | nil=>
  refine(c8t h s d l a p o).mono ?_;rintro e w' ⟨rfl,k,f⟩;exact⟨rfl,⟨_,_,_,_,_,_,_,_,_,_,_,_,_,_,_,_,_,_,_,_,_,_,k,inv2 i d m,n⟩,f⟩
 | cons g G=>
  obtain⟨J,X⟩:=s.r5.2.2 g (by rw[l];simp);obtain⟨j,rfl⟩:∃j:Nat,g=(j:Int):=⟨g.toNat,by omega⟩;by_cases v:x.sub<((x.c j).F.length:Int)
  ·refine(c8s h s d j G l (by omega) x.sub.toNat (by omega) (by omega) a p o).mono ?_;rintro e w' ⟨rfl,k,f⟩;exact⟨rfl,⟨_,_,_,_,_,_,_,_,_,_,_,_,_,_,_,_,_,_,_,_,_,_,k,inv2 i d m,n⟩,f⟩
  ·refine(c5e h m d j G l (by omega) v a p o).mono ?_;rintro e w' ⟨rfl,k,f⟩;exact⟨rfl,⟨_,_,_,_,_,_,_,_,_,_,_,_,_,_,_,_,_,_,_,_,_,_,k,inv2 i d m,n⟩,f⟩
theorem c8z[Inhabited uQ](h:SOq C B w b x)(hC:C<=1000000000)(s:Snd x)(g:x.E=3)(a:World)(y:a.heap.size<=B)(v:Ext a w):
  Calls prog 331 #[.agg #[pP b]] w λe w'=>e=.returned (zV (cY x).E b)/\Hid (SOq C B w' b (cY x))/\Ext a w':=by
 obtain⟨T,kr,a4,X,k4,a8,m8,Y,br,cB,cO,bn,pb,U,pk,kn,hd,V,F,Z,K,H,h,iv,u⟩:=h;have hh:=s.r1.I;have S:=s.ok.n8;by_cases t:x.I=x.A.length
 ·have f:cY x=cZ x 4 0:=by unfold cY;rw[if_pos t]
  refine(c8u h g t a y v).mono ?_;rintro e w' ⟨rfl,j,m⟩;exact⟨rfl,⟨_,_,_,_,_,_,_,_,_,_,_,_,_,_,_,_,_,_,_,_,_,_,j,by rw[f];exact d1y iv g t,by rw[b9v];exact u⟩,m⟩
 ·obtain⟨i,k⟩:∃i:Nat,x.I=(i:Int):=⟨x.I.toNat,by omega⟩;have d:i<x.A.length:=by omega
  have J:x.I.toNat=i:=by omega
  cases r:((x.c i).st == 1)
  ·have G:(x.c i).st≠1:=by simpa using r
   have f:=b6k s i k d G;have l:=b2q (z:=cY x) iv g (by rw[f];exact g) i k d (by rw[f]) (by rw[f]) (λq _=>by rw[f];rfl) iv.ho (.inl ⟨rfl,by rw[f];exact id⟩);rw[if_neg (by rw[f];exact G),List.append_nil] at l;refine(c5g h s g i k d r a y v).mono ?_;rintro e w' ⟨rfl,j,m⟩;exact⟨rfl,⟨_,_,_,_,_,_,_,_,_,_,_,_,_,_,_,_,_,_,_,_,_,_,j,l,by rw[b9v];exact u⟩,m⟩
  ·have E:(x.c i).st=1:=by simpa using r
   cases D:((x.c i).J == 0)
   ·have f:cY x={ x with A:=x.A.set i (qX (x.c i)),I:=(i:Int)+1 }:=by
     unfold cY;rw[if_neg t,J,if_neg (by simp [whB,D]),k]
    have o:∀q,(cY x).c q=if q=i then qX (x.c i) else x.c q:=λq=>by
     rw[f];exact Hp.c_set x i (qX (x.c i)) d q
    have l:=b2q (z:=cY x) iv g (by rw[f];exact g) i k d (by rw[f]) (by rw[f];simp) (λq p=>by rw[o,if_neg p]) iv.ho (.inl ⟨rfl,by rw[o,if_pos rfl];exact id⟩);rw[if_pos (by rw[o,if_pos rfl];exact E)] at l
    have P:K.length<=8000:=by
     have I:=iv.k3 g;have:=b5j x.A.length K (I.1.imp (λh=>Nat.ne_of_lt h)) (λq p=>by have:=(I.2.1 q p).1;omega);omega
    refine(c5h h S g i k d r D P a y v).mono ?_;rintro e w' ⟨rfl,j,m⟩;obtain⟨Q,n,j⟩:=uH j;exact⟨rfl,⟨_,_,_,_,_,_,_,_,_,_,_,_,_,_,_,_,_,_,_,_,_,_,j,l,by rw[b9v];exact u⟩,m⟩
   ·have L:whB (x.c i)=true:=by simp [whB,r,D]
    have f:cY x={ x with K:=x.K-(1+(x.c i).F.length),A:=x.A.set i Cl0,I:=(i:Int)+1 }:=by
     unfold cY;rw[if_neg t,J,if_pos L,k]
    have o:∀q,(cY x).c q=if q=i then Cl0 else x.c q:=λq=>by
     rw[f];exact Hp.c_set x i Cl0 d q
    refine(c2r h s g i k d L iv.ho (by have:=iv.le;omega) a y v).mono ?_;rintro e w' ⟨rfl,j,m⟩;obtain⟨N,M,O,W,n,j,A,R⟩:=uH j;have l:=b2q (z:=cY x) iv g (by rw[f];exact g) i k d (by rw[f]) (by rw[f];simp) (λq p=>by rw[o,if_neg p]) A (.inr R);rw[if_neg (by rw[o,if_pos rfl];simp [Cl0]),List.append_nil] at l;exact⟨rfl,⟨_,_,_,_,_,_,_,_,_,_,_,_,_,_,_,_,_,_,_,_,_,_,j,l,by rw[b9v];exact u⟩,m⟩
theorem c9a[Inhabited uQ](h:SOq C B w b x)(t:C<=1000000000)(s:Snd x)(u:x.E=4)(a:World)(y:a.heap.size<=B)(v:Ext a w):
  Calls prog 333 #[.agg #[pP b]] w λe w'=>e=.returned (zV (unit4 x).E b)/\Hid (SOq C B w' b (unit4 x))/\Ext a w':=by
 obtain⟨A,P,L,H,N,T,V,I,U,S,Q,k,M,D,R,j,O,E,F,J,K,f,h,iv,i⟩:=h;have m:2*(unit4 x).M<=(j:Int)/\(default:uQ).z k=none:=by rw[uroom4];exact i
 refine(d2m h iv t s u a y v).mono ?_;rintro e w' ⟨rfl,c,n⟩;obtain⟨p,l,g,q,G,r,W,d,c,o⟩:=uH c;exact⟨rfl,⟨_,_,_,_,_,_,_,_,_,_,_,_,_,_,_,_,_,_,_,_,_,_,c,o,m⟩,n⟩
theorem c9b[Inhabited uQ](h:SOq C B w b x)(s:Snd x)(j:x.E=5)(a:World)(p:a.heap.size<=B)(o:Ext a w):
  Calls prog 335 #[.agg #[pP b]] w λe w'=>e=.returned (zV (cV x).E b)/\Hid (SOq C B w' b (cV x))/\Ext a w':=by
 obtain⟨A,O,J,G,M,T,V,H,U,S,P,v,L,D,R,u,N,E,F,I,K,q,h,i,t⟩:=h;have Q:=s.r1.I;have W:=s.r1.sub;have m:=s.ok.n8;have n:2*(cV x).M<=(u:Int)/\(default:uQ).z v=none:=by rw[uroom5];exact t
 by_cases y:x.I=x.A.length
 ·refine(d2n h j y a p o).mono ?_;rintro e w' ⟨rfl,l,k⟩;exact⟨rfl,⟨_,_,_,_,_,_,_,_,_,_,_,_,_,_,_,_,_,_,_,_,_,_,l,inv5 i j m,n⟩,k⟩
 ·have f:x.I.toNat<x.A.length:=by omega
  by_cases g:x.sub.toNat<(x.c x.I.toNat).F.length
  ·have r:=((s.r4.2 x.I.toNat f).2 x.sub.toNat g).2 (λd=>by have:=d.1;omega);refine(c8q h j x.I.toNat (by omega) f x.sub.toNat (by omega) g s.r2 r.1.1 r.2.1 a p o).mono ?_;rintro e w' ⟨rfl,l,k⟩;exact⟨rfl,⟨_,_,_,_,_,_,_,_,_,_,_,_,_,_,_,_,_,_,_,_,_,_,l,inv5 i j m,n⟩,k⟩
  ·refine(c8p h m j x.I.toNat (by omega) f x.sub.toNat (by omega) g a p o).mono ?_;rintro e w' ⟨rfl,l,k⟩;exact⟨rfl,⟨_,_,_,_,_,_,_,_,_,_,_,_,_,_,_,_,_,_,_,_,_,_,l,inv5 i j m,n⟩,k⟩
theorem c9c[Inhabited uQ](h:SOq C B w b x)(hC:C<=1000000000)(s:Snd x)(d:x.E=6)(a:World)(H:a.heap.size<=B)(G:Ext a w):
  Calls prog 336 #[.agg #[pP b]] w λe w'=>e=.returned (zV (hE x).E b)/\Hid (SOq C B w' b (hE x))/\Ext a w':=by
 obtain⟨P,kr,W,T,Y,a8,m8,U,br,cB,cO,bn,X,Q,pk,Z,hd,R,F,V,K,D,h,iv,y⟩:=h;have hh:=s.r1.I;have O:=s.ok.n8;by_cases E:x.I=0
 ·refine(d2p h d E s.r1.Q a H G).mono ?_;rintro e w' ⟨rfl,k,u⟩;have n:(hE x).E=0/\(hE x).A=x.A:=by unfold hE;rw[if_pos E];exact⟨rfl,rfl⟩
  exact⟨rfl,⟨_,_,_,_,_,_,_,_,_,_,_,_,_,_,_,_,_,_,_,_,_,_,k,d1z iv d n.1 n.2,by rw[d2q];exact y⟩,u⟩
 ·obtain⟨i,A⟩:∃i:Nat,x.I=(i:Int)+1:=⟨(x.I-1).toNat,by omega⟩;have l:i<x.A.length:=by omega
  have n:hE x=qE (cJ x i) i:=by unfold hE;rw[if_neg (by omega),show(x.I-1).toNat=i by omega]
  have g:(cJ x i).A.length=x.A.length:=by unfold cJ;split <;> simp
  have m:∀q,(cJ x i).c q=if q=i/\(x.c i).st=2 then Cl0 else x.c q:=λq=>by
   by_cases o:(x.c i).st=2
   ·have:(cJ x i).c q=({ x with A:=x.A.set i Cl0 }:Hp).c q:=by unfold cJ;rw[if_pos o];rfl
    rw[this,Hp.c_set x i Cl0 l q];by_cases e:q=i
    ·rw[if_pos e,if_pos ⟨e,o⟩]
    ·rw[if_neg e,if_neg (λh=>e h.1)]
   ·have:(cJ x i).c q=x.c q:=by unfold cJ;rw[if_neg o];rfl
    rw[this,if_neg (λh=>o h.2)]
  have j:(hE x).E=6/\(hE x).I=(i:Int)/\(hE x).A.length<=x.A.length/\∀q,q<(hE x).A.length->(hE x).c q=(cJ x i).c q:=by
   rw[n];unfold qE
   split
   ·refine⟨d,rfl,by simp [g];omega,λq f=>?_⟩;simp at f;simp only [Hp.c,List.getD_eq_getElem?_getD,List.getElem?_take];rw[if_pos (by omega)]
   ·exact⟨d,rfl,by rw[g];omega,λq _=>rfl⟩
  refine(c8w h O d i A l (by have:=s.r1.A;omega) iv.ho (by have:=iv.le;omega) a H G).mono ?_;rintro e w' ⟨rfl,k,u⟩;obtain⟨L,I,M,S,v,k,r,N⟩:=uH k
  have J:=c8g (z:=hE x) iv d j.1 i A j.2.1 j.2.2.1 (λq f t=>by rw[j.2.2.2 q f,m,if_neg (λh=>t h.1)]) r (by
   rcases N with⟨_,p⟩ | ⟨n2,p⟩
   ·exact .inr p
   ·exact .inl ⟨p,λf=>by rw[j.2.2.2 i f,m,if_neg (λh=>n2 h.2)];exact id⟩)
  exact⟨rfl,⟨_,_,_,_,_,_,_,_,_,_,_,_,_,_,_,_,_,_,_,_,_,_,k,J,by rw[d2q];exact y⟩,u⟩
theorem SOq.box[Inhabited uQ](h:SOq C B w b x):w.cell? (aA b 5)=some (iv x.E)/\w.frozen? (aA b 5)=false/\B<=b/\b<w.heap.size:=by
 obtain⟨c,q,k,f,m,u,y,g,v,t,r,o,l,d,s,n,p,e,F,j,K,a,h,i⟩:=h;exact⟨h.sb.bx.2.2.2.2.2.1,h.sb.nb.2 5,h.sb.lo.1,h.sb.nb.1⟩
def a6v : String := "loop.example/spool/impl.unit"
theorem c9n(b:Nat)(W:World){s:String}(a:s=a6v):(method 443 233 (.agg #[pP b]) s).run prog W=.ok (328,.agg #[pP b]) W:=by subst a;kernel_rfl
theorem b8e(b:Nat)(W:World):(binOp .neq 182 (.iface 233 (.agg #[pP b])) .nilIface).run prog W=.ok (.bool true) W:=by kernel_rfl
theorem d3j(b:Nat)(W:World){s:String}(a:s=a6v):(method 443 234 (.agg #[pP b]) s).run prog W=.ok (329,.agg #[pP b]) W:=by subst a;kernel_rfl
theorem c3b(b:Nat)(W:World):(binOp .neq 182 (.iface 234 (.agg #[pP b])) .nilIface).run prog W=.ok (.bool true) W:=by kernel_rfl
theorem c9o(b:Nat)(W:World){s:String}(a:s=a6v):(method 443 235 (.agg #[pP b]) s).run prog W=.ok (331,.agg #[pP b]) W:=by subst a;kernel_rfl
theorem b8f(b:Nat)(W:World):(binOp .neq 182 (.iface 235 (.agg #[pP b])) .nilIface).run prog W=.ok (.bool true) W:=by kernel_rfl
theorem d3k(b:Nat)(W:World){s:String}(a:s=a6v):(method 443 236 (.agg #[pP b]) s).run prog W=.ok (333,.agg #[pP b]) W:=by subst a;kernel_rfl
theorem c3c(b:Nat)(W:World):(binOp .neq 182 (.iface 236 (.agg #[pP b])) .nilIface).run prog W=.ok (.bool true) W:=by kernel_rfl
theorem d3m(b:Nat)(W:World){s:String}(a:s=a6v):(method 443 237 (.agg #[pP b]) s).run prog W=.ok (335,.agg #[pP b]) W:=by subst a;kernel_rfl
theorem c3d(b:Nat)(W:World):(binOp .neq 182 (.iface 237 (.agg #[pP b])) .nilIface).run prog W=.ok (.bool true) W:=by kernel_rfl
theorem d3n(b:Nat)(W:World){s:String}(a:s=a6v):(method 443 238 (.agg #[pP b]) s).run prog W=.ok (336,.agg #[pP b]) W:=by subst a;kernel_rfl
theorem c3e(b:Nat)(W:World):(binOp .neq 182 (.iface 238 (.agg #[pP b])) .nilIface).run prog W=.ok (.bool true) W:=by kernel_rfl
theorem b1h[Inhabited uQ](n:Nat)(h:SOq C B w b x)(M:C<=1000000000)(s:Snd x)(a:World)(v:a.heap.size<=B)(hx:Ext a w):
  Calls prog 144 #[pP b,iv n] w λe w'=>∃k:Nat,e=.returned (iv k)/\Hid (a7p x n k)/\Hid (SOq C B w' b (itU k x))/\Ext a w':=by
 have R:=uU h;have S:=uU s;have N:=uU (b4f x.E b w h.box.1 s.r1.E);have O:=uU hx;go_enter func144,ntmps144;go_wp2_with fail;refine N.mono ?_;rintro e w1 ⟨rfl,E⟩;subst E;go_wp2_with fail
 go_loopg [5,6] (14000000) (λV u I wr=>∃k:Nat,u=iv k/\I=zV (itU k x).E b/\Hid (k<=n)/\Hid (yD x k)/\Hid (mu (itU k x)<=V)/\Hid (SOq C B wr b (itU k x))/\Hid (Ext a wr))
 case atStart=>exact⟨0,rfl,rfl,Nat.zero_le _,yD.zero _,S.mu_le,R,O⟩
 case round=>
  obtain⟨k,rfl,rfl,o,D,q,m,c⟩:=hrel;have kl:=D.le S;have SK:=uU (S.itU k);by_cases A:(itU k x).E=0
  ·have U:=uU A;have Y:zV (itU k x).E b=.nilIface:=by rw[A];rfl
   have q0:∀W,(binOp .neq 182 .nilIface .nilIface).run prog W=.ok (.bool false) W:=λ_=>by kernel_rfl
   rw[Y];go_wp2;go_ret;exact⟨k,rfl,⟨D,o,.inr U⟩,m,c⟩
  ·by_cases P:k<n
   ·have h1:(k:Int)<(n:Int):=by omega
    have R3:=uU (D.succ A);have t:=uU (show mu (itU (k+1) x)<mu (itU k x) from SK.less A);have wk:wrap64 ((k:Int)+1)=(k:Int)+1:=by unfold wrap64;omega
    have Z:=uU SK.r1.E;have X:=uU A;have p:=uU (show k+1<=n by omega);by_cases F:(itU k x).E=1
    ·have f:zV (itU k x).E b=.iface 233 (.agg #[pP b]):=by rw[F];rfl
     have r:∀W,(binOp .neq 182 (.iface 233 (.agg #[pP b])) .nilIface).run prog W=.ok (.bool true) W:=b8e b;have j:=uU (show dC (itU k x)=itU (k+1) x by show dC (itU k x)=cE (itU k x);unfold cE;simp [F]);have l:=uU F;rw[f];go_wp2_with fail;rw[c9n b _ (show _=a6v by kernel_rfl)];go_wp2_with fail;refine(c8x m SK l a v c).mono ?_;rintro e y ⟨rfl,d,i⟩;rw[uH j] at d ⊢;have g:=uU i;go_wp2_with fail
     go_roundg (mu (itU (k+1) x))
     case measure=>have:=uH t;have:=uH q;omega
     case rel=>exact⟨k+1,by go_num,rfl,p,R3,Nat.le_refl _,d,g⟩
    ·skip
     by_cases G:(itU k x).E=2
     ·have f:zV (itU k x).E b=.iface 234 (.agg #[pP b]):=by rw[G];rfl
      have r:∀W,(binOp .neq 182 (.iface 234 (.agg #[pP b])) .nilIface).run prog W=.ok (.bool true) W:=c3b b;have j:=uU (show cX (itU k x)=itU (k+1) x by show cX (itU k x)=cE (itU k x);unfold cE;simp [G]);have l:=uU G;rw[f];go_wp2_with fail;rw[d3j b _ (show _=a6v by kernel_rfl)];go_wp2_with fail;refine(c8y m SK l a v c).mono ?_;rintro e y ⟨rfl,d,i⟩;rw[uH j] at d ⊢;have g:=uU i;go_wp2_with fail
      go_roundg (mu (itU (k+1) x))
      case measure=>have:=uH t;have:=uH q;omega
      case rel=>exact⟨k+1,by go_num,rfl,p,R3,Nat.le_refl _,d,g⟩
     ·skip
      by_cases K:(itU k x).E=3
      ·have f:zV (itU k x).E b=.iface 235 (.agg #[pP b]):=by rw[K];rfl
       have r:∀W,(binOp .neq 182 (.iface 235 (.agg #[pP b])) .nilIface).run prog W=.ok (.bool true) W:=b8f b;have j:=uU (show cY (itU k x)=itU (k+1) x by show cY (itU k x)=cE (itU k x);unfold cE;simp [K]);have l:=uU K;rw[f];go_wp2_with fail;rw[c9o b _ (show _=a6v by kernel_rfl)];go_wp2_with fail;refine(c8z m M SK l a v c).mono ?_;rintro e y ⟨rfl,d,i⟩;rw[uH j] at d ⊢;have g:=uU i;go_wp2_with fail
       go_roundg (mu (itU (k+1) x))
       case measure=>have:=uH t;have:=uH q;omega
       case rel=>exact⟨k+1,by go_num,rfl,p,R3,Nat.le_refl _,d,g⟩
      ·skip
       by_cases L:(itU k x).E=4
       ·have f:zV (itU k x).E b=.iface 236 (.agg #[pP b]):=by rw[L];rfl
        have r:∀W,(binOp .neq 182 (.iface 236 (.agg #[pP b])) .nilIface).run prog W=.ok (.bool true) W:=c3c b;have j:=uU (show unit4 (itU k x)=itU (k+1) x by show unit4 (itU k x)=cE (itU k x);unfold cE;simp [L]);have l:=uU L;rw[f];go_wp2_with fail;rw[d3k b _ (show _=a6v by kernel_rfl)];go_wp2_with fail;refine(c9a m M SK l a v c).mono ?_;rintro e y ⟨rfl,d,i⟩;rw[uH j] at d ⊢;have g:=uU i;go_wp2_with fail
        go_roundg (mu (itU (k+1) x))
        case measure=>have:=uH t;have:=uH q;omega
        case rel=>exact⟨k+1,by go_num,rfl,p,R3,Nat.le_refl _,d,g⟩
       ·skip
        by_cases H:(itU k x).E=5
        ·have f:zV (itU k x).E b=.iface 237 (.agg #[pP b]):=by rw[H];rfl
         have r:∀W,(binOp .neq 182 (.iface 237 (.agg #[pP b])) .nilIface).run prog W=.ok (.bool true) W:=c3d b;have j:=uU (show cV (itU k x)=itU (k+1) x by show cV (itU k x)=cE (itU k x);unfold cE;simp [H]);have l:=uU H;rw[f];go_wp2_with fail;rw[d3m b _ (show _=a6v by kernel_rfl)];go_wp2_with fail;refine(c9b m SK l a v c).mono ?_;rintro e y ⟨rfl,d,i⟩;rw[uH j] at d ⊢;have g:=uU i;go_wp2_with fail
         go_roundg (mu (itU (k+1) x))
         case measure=>have:=uH t;have:=uH q;omega
         case rel=>exact⟨k+1,by go_num,rfl,p,R3,Nat.le_refl _,d,g⟩
        ·skip
         have J:(itU k x).E=6:=by have:=uH Z;have:=uH X;omega
         have f:zV (itU k x).E b=.iface 238 (.agg #[pP b]):=by rw[J];rfl
         have r:∀W,(binOp .neq 182 (.iface 238 (.agg #[pP b])) .nilIface).run prog W=.ok (.bool true) W:=c3e b;have j:=uU (show hE (itU k x)=itU (k+1) x by show hE (itU k x)=cE (itU k x);unfold cE;simp [J]);have l:=uU J;rw[f];go_wp2_with fail;rw[d3n b _ (show _=a6v by kernel_rfl)];go_wp2_with fail;refine(c9c m M SK l a v c).mono ?_;rintro e y ⟨rfl,d,i⟩;rw[uH j] at d ⊢;have g:=uU i;go_wp2_with fail
         go_roundg (mu (itU (k+1) x))
         case measure=>have:=uH t;have:=uH q;omega
         case rel=>exact⟨k+1,by go_num,rfl,p,R3,Nat.le_refl _,d,g⟩
   ·have h1:¬(k:Int)<(n:Int):=by omega
    have z:=uU (show k=n by have:=uH o;omega)
    have Q:=uU (show ∃T,zV (itU k x).E b=.iface T (.agg #[pP b])/\∀W,(binOp .neq 182 (.iface T (.agg #[pP b])) .nilIface).run prog W=.ok (.bool true) W by
     have hp:=SK.r1.E;have h:(itU k x).E=1\/(itU k x).E=2\/(itU k x).E=3\/(itU k x).E=4\/(itU k x).E=5\/(itU k x).E=6:=by omega
     rcases h with e | e | e | e | e | e
     ·exact⟨_,by rw[e];rfl,b8e b⟩
     ·exact⟨_,by rw[e];rfl,c3b b⟩
     ·exact⟨_,by rw[e];rfl,b8f b⟩
     ·exact⟨_,by rw[e];rfl,c3c b⟩
     ·exact⟨_,by rw[e];rfl,c3d b⟩
     ·exact⟨_,by rw[e];rfl,c3e b⟩)
    obtain⟨T,f,r⟩:=Q;rw[f];go_wp2;go_ret;exact⟨k,rfl,⟨D,o,.inl z⟩,m,c⟩
theorem SOq.wide[Inhabited uQ]{D:Nat}(h:SOq C B w b x)(a:C<=D):SOq D B w b x:=by grind [SOq,zW.wide]
theorem b8h[Inhabited uQ](h:SOq C B w b x)(d:x.E=0)(a:World)(J:a.heap.size<=B)(I:Ext a w):
  Calls prog 143 #[pP b] w λe w'=>e=.returned (zV 1 b)/\Hid (SOq (C+16000) B w' b (cZ x 1 0))/\Ext a w':=by
 obtain⟨f,u,o,l,q,D,H,m,G,A,v,s,p,g,y,r,t,j,F,n,K,c,h,i,k⟩:=h;refine(a7z h 0 d rfl rfl (by omega) a J I).mono ?_;rintro e w' ⟨rfl,E,z⟩;exact⟨rfl,⟨f,u,o,l,q,D,H,m,G,A,v,s,p,g,y,r,t,j,F,n,K,c,E,inv0 i d,k⟩,z⟩
theorem d3s[Inhabited uQ](n:Nat)(h:SOq C B w b x)(m:C+16000<=1000000000)(s:Snd x)(A:n<=100000)(a:World)(j:a.heap.size<=B)(l:Ext a w):
  Calls prog 80 #[pP b,iv n] w λe w'=>∃k:Nat,e=.returned (iv k)/\Hid (a7p (stepH x n) n k)/\Hid (SOq (C+16000) B w' b (itU k (stepH x n)))/\Ext a w':=by
 have r:=h.box.1;have H:=uU h;have S:=uU s;by_cases f:n=0
 ·have e:stepH x n=x:=by unfold stepH;rw[if_neg (λh=>h.2 f)]
  rw[e];have p:¬(n:Int) > 0:=by omega
  clear h s e f;go_enter func80,ntmps80;go_wp2_with fail;refine(b1h n (H.wide (show C<=C+16000 by omega)) m S a j l).mono ?_;rintro e o ⟨k,rfl,i,d,g⟩;go_wp2_with fail;go_ret;exact⟨k,rfl,i,d,g⟩
 ·have p:(n:Int) > 0:=by omega
  by_cases c:x.E=0
  ·have e:stepH x n=cZ x 1 0:=by unfold stepH;rw[if_pos ⟨c,f⟩]
   rw[e];rw[c] at r;have v:=uU (b8h h c a j l);have t:=uU (s.begin c);clear h s e f c;go_enter func80,ntmps80;go_wp2_with fail;refine v.mono ?_;rintro e o ⟨rfl,d,g⟩;go_wp2_with fail;refine(b1h n d m t a j g).mono ?_;rintro e y ⟨k,rfl,i,q,u⟩;go_wp2_with fail;go_ret;exact⟨k,rfl,i,q,u⟩
  ·have e:stepH x n=x:=by unfold stepH;rw[if_neg (λh=>c h.1)]
   rw[e];have z:(x.E == 0)=false:=by simpa using c
   clear h s e f c;go_enter func80,ntmps80;go_wp2_with fail;refine(b1h n (H.wide (show C<=C+16000 by omega)) m S a j l).mono ?_;rintro e o ⟨k,rfl,i,d,g⟩;go_wp2_with fail;go_ret;exact⟨k,rfl,i,d,g⟩
theorem c3g(p:Nat->Bool)(h:Nat):∀d,(List.range (h+d)).filter (λi=>p i && decide ((i:Int)<(h:Int)))=(List.range h).filter p
 | 0=>by
  refine List.filter_congr λi hi=>?_
  have:=List.mem_range.1 hi;have e:decide ((i:Int)<(h:Int))=true:=by simp;omega
  rw[e,Bool.and_true]
 | d+1=>by
  rw[<-Nat.add_assoc,List.range_succ,List.filter_append,c3g p h d,List.filter_cons_of_neg (by simp;intro _;omega),List.filter_nil,List.append_nil]
theorem c9s(x:Hp)(k:Nat):(a7f x k).length<=k:=a2z _ _ _
theorem b3y.soq[Inhabited uQ](hz:∀q,(default:uQ).z q=none)(h:b3y B w b x)(s:Snd x):SOq 24000 B w b x:=by
 obtain⟨ar,kr,a4,n4,k4,a8,m8,k8,br,cB,cO,bn,pb,pa,pk,kn,hd,vf,F,vk,role,hst,ho,pm,hk⟩:=h;have hh:=s.r1.I;have n8:=s.ok.n8;refine⟨ar,kr,a4,n4,k4,a8,m8,k8,br,cB,cO,bn,pb,pa,pk,kn,hd,vf,F,vk,_,role,hst,⟨ho,λi hi h0=>?_,λv hv=>?_,?_,λh3=>?_,λh4=>?_,λh3 h4=>?_⟩,by omega,hz bn⟩
 ·grind [a5i,b3y,SOq]
 ·grind [a5i,b3y,SOq]
 ·have l1:=pm.length_eq;have l2:=c9s x x.A.length
  have l3:yE x<=16000:=by grind [yE,b3y,SOq]
  omega
 ·have e:x.A.length=x.I.toNat+(x.A.length-x.I.toNat):=by omega
  have e2:qY x x.A.length=(List.range x.A.length).filter (λi=>((x.c i).st == 1) && decide ((i:Int)<(x.I.toNat:Int))):=by grind [qY,Hp.c,SAt.I,Snd.I,a1u,b3y,SOq]
  rw[e2,e,c3g (λi=>(x.c i).st == 1) x.I.toNat _];refine⟨List.pairwise_lt_range.filter _,λi hi=>?_,λi hi h1 hn=>?_⟩
  ·grind [b3y,SOq]
  ·grind [b3y,SOq]
 ·have e2:qY x x.A.length=(List.range x.A.length).filter (λi=>(x.c i).st == 1):=by
   unfold qY;refine List.filter_congr λi _=>?_
   have:a1u x i=true:=by unfold a1u;simp [h4]
   rw[this,Bool.and_true]
  rw[e2];refine⟨List.pairwise_lt_range.filter _,λi hi=>?_,λi hi h1 hn=>?_⟩
  ·grind [b3y,SOq]
  ·grind [b3y,SOq]
 ·unfold qY;refine List.filter_eq_nil_iff.2 λi _=>?_
  have:a1u x i=false:=by unfold a1u;simp [h3,h4]
  simp [this]
theorem c3i[Inhabited uQ](h:SOq C B w b y)(s:Snd y)(g:B<=w.heap.size):
  Calls prog 59 #[pP b] w λe w'=>∃br kr bcN bgN pb pa pk,e=.returned (y.v (sS br y.B.length kr) (sS bcN y.A.length y.A.length) (sS bgN y.D.length y.D.length))/\Hid (a9y B w'.heap.size w' y br kr bcN y.A.length bgN y.D.length pb pa pk)/\Ext w w':=by
 obtain⟨z,kr,i,u,l,k,q,x,br,n,r,A,pb,pa,pk,t,m,p,F,o,K,a,h,_,_⟩:=h;have j:=s.r1.D;have c:=s.ok.n8;refine(c3h w h s.r5.2.2 s.ok.r16.1 ⟨s.ok.r16.2,c,by omega,s.ok.p200⟩ g).mono ?_;rintro e w' ⟨bcN,bgN,rfl,d,f⟩;exact⟨br,kr,bcN,bgN,pb,pa,pk,rfl,d,f⟩
theorem c0b(x:Hp)(n:Int)(w:World){E:Option Addr}{r:Option Addr}{A:Nat}{u:Option Addr}(hR:SlW w (.slice E x.B.length B) x.B)(hC:SlC w (.slice r x.A.length A) x.A)(hG:SlI w (.slice u x.D.length C) x.D)(D:a2p w x r):
  Calls prog 30 #[x.v (.slice E x.B.length B) (.slice r x.A.length A) (.slice u x.D.length C),iv n] w λe w'=>∃(y:Hp) (k:Nat) (E:Option Addr) (B:Nat) (r:Option Addr) (A:Nat) (u:Option Addr) (C:Nat),Hid (e=.returned (stpV y k (.slice E y.B.length B) (.slice r y.A.length A) (.slice u y.D.length C)))/\Hid (StIs x n y k)/\Hid (HA w.heap.size w'.heap.size w' y E B r A u C)/\Ext w w':=by
 obtain⟨ak,HZ⟩:∃i:Inhabited uQ,Hid (∀q,(@default uQ i).z q=none):=⟨⟨⟨λ_=>none⟩⟩,λ_=>rfl⟩;have M:Ext w ((w.alloc (.cells #[iv x.M,iv x.K,iv x.born,.slice E x.B.length B,.slice r x.A.length A,iv x.E,iv x.I,iv x.sub,.slice u x.D.length C,iv x.per,iv x.V,iv x.Q,iv x.S] 34)).alloc (.cells #[iv 0,iv 0,iv 0,.slice none 0 0,.slice none 0 0,iv 0,iv 0,iv 0,.slice none 0 0,iv 0,iv 0,iv 0,iv 0,iv 0] 56)):=((Ext.refl w).alloc _).alloc _;have S1:=uU (SlW.ext M hR);have S2:=uU (SlC.ext M hC);have S3:=uU (SlI.ext M hG);have S4:=uU (D.extS hC M);have aa:((w.alloc (.cells #[iv x.M,iv x.K,iv x.born,.slice E x.B.length B,.slice r x.A.length A,iv x.E,iv x.I,iv x.sub,.slice u x.D.length C,iv x.per,iv x.V,iv x.Q,iv x.S] 34)).alloc (.cells #[iv 0,iv 0,iv 0,.slice none 0 0,.slice none 0 0,iv 0,iv 0,iv 0,.slice none 0 0,iv 0,iv 0,iv 0,iv 0,iv 0] 56)).heap.size=w.heap.size+2:=by simp
 clear hR hC hG D;go_enter func30,ntmps30;go_wp2_with fail;refine(a3w x _ S1 S2 S3 S4).mono ?_;rintro e I ⟨t,G⟩;have x2:=M.trans t;have RC:=uU (show ∀o v,((w.alloc (.cells #[iv x.M,iv x.K,iv x.born,.slice E x.B.length B,.slice r x.A.length A,iv x.E,iv x.I,iv x.sub,.slice u x.D.length C,iv x.per,iv x.V,iv x.Q,iv x.S] 34)).alloc (.cells #[iv 0,iv 0,iv 0,.slice none 0 0,.slice none 0 0,iv 0,iv 0,iv 0,.slice none 0 0,iv 0,iv 0,iv 0,iv 0,iv 0] 56)).cell? (aA (w.heap.size+1) o)=some v->I.cell? (aA (w.heap.size+1) o)=some v from λo v h=>t.keep h);have aj:=uU (show ∀o,I.frozen? (aA (w.heap.size+1) o)=false from λo=>((uK t).2 (w.heap.size+1) o (by rw[aa];omega)).trans (by simp [go_sem]));have al:w.heap.size+2<=I.heap.size:=by have:=t.size;omega
 have f:=uH RC;have c:=uH aj;have T:=f 0 (iv 0) (by simp [go_sem]);have U:=f 1 (iv 0) (by simp [go_sem]);have Z:=f 2 (iv 0) (by simp [go_sem]);have r3:=f 3 (.slice none 0 0) (by simp [go_sem]);have r4:=f 4 (.slice none 0 0) (by simp [go_sem]);have r5:=f 5 (iv 0) (by simp [go_sem]);have r6:=f 6 (iv 0) (by simp [go_sem]);have r7:=f 7 (iv 0) (by simp [go_sem]);have X:=f 8 (.slice none 0 0) (by simp [go_sem]);have Y:=f 9 (iv 0) (by simp [go_sem]);have p:=f 10 (iv 0) (by simp [go_sem]);have l:=f 11 (iv 0) (by simp [go_sem]);have j:=f 12 (iv 0) (by simp [go_sem]);have g:=f 13 (iv 0) (by simp [go_sem]);have f0:=c 0;have f1:=c 1;have f2:=c 2;have f3:=c 3;have f4:=c 4;have f5:=c 5;have f6:=c 6;have f7:=c 7;have f8:=c 8;have f9:=c 9;have L:=c 10;have O:=c 11;have R:=c 12;have S:=c 13;have d:w.heap.size+1<I.heap.size:=uL T;clear t f c;rcases uH G with⟨hn,rfl⟩ | ⟨hok,b,an,kn,rfl,hv,han⟩
 ·have N:=uU (show StIs x n Hp0 0 from .inr ⟨λh=>hn h.1,rfl,rfl⟩);clear G hn;go_wp2_with fail;refine bodyPost_ret (v:=stpV Hp0 0 (.slice none 0 0) (.slice none 0 0) (.slice none 0 0)) (by simp [results,results30,go_sem,Hp0,T,U,Z,r3,r4,r5,r6,r7,X,Y,p,l,j,g]) rfl ⟨Hp0,0,none,0,none,0,none,0,rfl,N,HA.zero _ _ _,?_⟩;refine(λ(F:uX (λq=>q=w.heap.size+1) I _)=>F.ext x2 (λq t e=>by omega)) ?_
  repeat (first | refine uX.setCell ?_ (by simp) _ | exact uX.refl _ _)
 ·have H:=uU hok;have V:=uU hv;clear G hok hv han;go_wp2_with fail;by_cases P:0<=n/\n<=100000
  ·obtain⟨m,hm⟩:∃m:Nat,n=(m:Int):=⟨n.toNat,by omega⟩;subst hm;have ah:m<=100000:=by omega
   refine(b1j (m:Int) 0 100000 _ (by omega) (by omega)).mono ?_;rintro e w3 ⟨rfl,rfl⟩;have ad:=uU (show StOk x (m:Int) from⟨H,by omega,by omega⟩);have GF:=uU (a4b H);have SN:=uU H.snd;clear P;go_wp2_with fail;refine(b2x HZ x b _ V H.all.1 H.all.2.1 H.r5 GF.1).mono ?_;rintro e w4 ⟨s,rfl,hs,x4⟩;have ST:=uU (hs.soq HZ SN);clear hs;go_wp2_with fail;refine(d3s m ST (by omega) SN ah w3 (Nat.le_refl _) x4).mono ?_;rintro e w5 ⟨k,rfl,st,h5,x5⟩;have SY:=uU (show Snd (itU k (stepH x m)) from(show Snd (stepH x m) by unfold stepH;split;exact SN.begin (by rename_i h;exact h.1);exact SN).itU k);have IS:=uU (show StIs x (m:Int) (itU k (stepH x m)) k from .inl ⟨ad,by simpa using uH st,by simp⟩);obtain⟨y,hy⟩:∃y,y=itU k (stepH x m):=⟨_,rfl⟩;rw[<-hy] at h5 SY IS;have QT:=uU (c3i h5 SY x5.size);clear hy st ST;go_wp2_with fail;refine QT.mono ?_;rintro e w6 ⟨br,Q,K,J,pb,pa,pk,rfl,h6,x6⟩;have a:=x5.trans x6;have X6:=x2.trans a;have e0:=a.keep T;have e1:=a.keep U;have e2:=a.keep Z;have e3:=a.keep r3;have e4:=a.keep r4;have e5:=a.keep r5;have e6:=a.keep r6;have e7:=a.keep r7;have e8:=a.keep X;have e9:=a.keep Y;have ab:=a.keep p;have ai:=a.keep l;have af:=a.keep j;have ae:=a.keep g;have g0:=((uK a).2 (w.heap.size+1) 0 d).trans f0;have g1:=((uK a).2 (w.heap.size+1) 1 d).trans f1;have g2:=((uK a).2 (w.heap.size+1) 2 d).trans f2;have g3:=((uK a).2 (w.heap.size+1) 3 d).trans f3;have g4:=((uK a).2 (w.heap.size+1) 4 d).trans f4;have g5:=((uK a).2 (w.heap.size+1) 5 d).trans f5;have g6:=((uK a).2 (w.heap.size+1) 6 d).trans f6;have g7:=((uK a).2 (w.heap.size+1) 7 d).trans f7;have g8:=((uK a).2 (w.heap.size+1) 8 d).trans f8;have g9:=((uK a).2 (w.heap.size+1) 9 d).trans f9;have ap:=((uK a).2 (w.heap.size+1) 10 d).trans L;have am:=((uK a).2 (w.heap.size+1) 11 d).trans O;have aq:=((uK a).2 (w.heap.size+1) 12 d).trans R;have ao:=((uK a).2 (w.heap.size+1) 13 d).trans S
   have RW:=uU (show ∀W,uX (λq=>q=w.heap.size+1) w6 W->HA w.heap.size W.heap.size W y (some (aA br 0)) Q (some (aA K 0)) y.A.length (some (aA J 0)) y.D.length from λW o=>by
    have:=(h6.only o (λq h1 h2 e=>by omega)).grow (Nat.le_trans (Nat.le_refl _) o.size) (show w.heap.size<=w3.heap.size by omega);exact .inr ⟨_,_,_,_,_,_,rfl,rfl,rfl,this⟩)
   clear h6 T U Z r3 r4 r5 r6 r7 X Y p l j g f0 f1 f2 f3 f4 f5 f6 f7 f8 f9 L O R S;go_wp2_with fail;refine bodyPost_ret (v:=stpV y k (sS br y.B.length Q) (sS K y.A.length y.A.length) (sS J y.D.length y.D.length)) (by simp [results,results30,go_sem,e0,e1,e2,e3,e4,e5,e6,e7,e8,e9,ab,ai,af,ae]) rfl ⟨y,k,_,_,_,_,_,_,rfl,IS,?_⟩;refine(λ(F:uX (λq=>q=w.heap.size+1) w6 _)=>⟨uH RW _ F,F.ext X6 (λq t e=>by omega)⟩) ?_
   repeat (first | refine uX.setCell ?_ (by simp) _ | exact uX.refl _ _)
  ·refine(a9h n 0 100000 _ (by omega)).mono ?_;rintro e w3 ⟨rfl,rfl⟩;have N:=uU (show StIs x n Hp0 0 from .inr ⟨λh=>P ⟨h.2.1,h.2.2⟩,rfl,rfl⟩);go_wp2_with fail;refine bodyPost_ret (v:=stpV Hp0 0 (.slice none 0 0) (.slice none 0 0) (.slice none 0 0)) (by simp [results,results30,go_sem,Hp0,T,U,Z,r3,r4,r5,r6,r7,X,Y,p,l,j,g]) rfl ⟨Hp0,0,none,0,none,0,none,0,rfl,N,HA.zero _ _ _,?_⟩;refine(λ(F:uX (λq=>q=w.heap.size+1) w3 _)=>F.ext x2 (λq t e=>by omega)) ?_
   repeat (first | refine uX.setCell ?_ (by simp) _ | exact uX.refl _ _)
theorem b6u[Inhabited uQ](h:SOq C B w b x)(i:C<=1000000000)(s:Snd x)(a:World)(j:a.heap.size<=B)(g:Ext a w):
  Calls prog 85 #[pP b] w λe w'=>∃k:Nat,e=.returned (iv k)/\Hid (c1p x k)/\Hid (SOq C B w' b (itU k x))/\Ext a w':=by
 have Q:=uU (b1h 9223372036854775807 h i s a j g);have S:=uU s;go_enter func85,ntmps85;go_wp2_with fail;refine Q.mono ?_;rintro e l ⟨k,rfl,d,f,c⟩
 have E:=uU (show c1p x k by
  obtain⟨r,_,e⟩:=d;refine⟨?_,r⟩;rcases e with e | e
  ·have:=r.le S;omega
  ·exact e)
 go_wp2;go_ret;exact⟨k,rfl,E,f,c⟩
def EndH(x:Hp)(y:Hp):Prop:=∃k,c1p x k/\y=itU k x
theorem EndH.snd(s:Snd x)(h:EndH x y):Snd y/\y.E=0:=by
 obtain⟨k,a,b⟩:=h;rw[b];exact⟨s.itU k,a.1⟩
theorem c9u[Inhabited uQ](h:SOq C B w b x)(t:C+16000<=1000000000)(s:Snd x)(a:World)(f:a.heap.size<=B)(r:Ext a w):
  Calls prog 81 #[pP b] w λe w'=>∃y z,e=.returned (.tuple #[])/\Hid (EndH x y/\EndH (cZ y 1 0) z)/\Hid (SOq (C+16000) B w' b z)/\Ext a w':=by
 have H:=uU h;have S:=uU s;go_enter func81,ntmps81;go_wp2_with fail;refine(b6u H (by omega) S a f r).mono ?_;rintro e v ⟨k,rfl,d,g,m⟩;obtain⟨y,i⟩:∃y,y=itU k x:=⟨_,rfl⟩;rw[<-i] at g;have c:=uU (show EndH x y from⟨k,d,i⟩);go_wp2_with fail;refine(b8h g (c.snd S).2 a f m).mono ?_;rintro e u ⟨rfl,l,o⟩;go_wp2_with fail;refine(b6u l t ((c.snd S).1.begin (c.snd S).2) a f o).mono ?_;rintro e A ⟨j,rfl,d,q,n⟩;have p:=uU (show EndH (cZ y 1 0) (itU j (cZ y 1 0)) from⟨j,d,rfl⟩);go_wp2_with fail
 go_end0
 exact⟨y,_,rfl,⟨c,p⟩,q,n⟩
theorem b7h(x:Hp)(w:World){ar:Option Addr}{kr:Nat}{ac:Option Addr}{kc:Nat}{ag:Option Addr}{kg:Nat}(hR:SlW w (.slice ar x.B.length kr) x.B)(hC:SlC w (.slice ac x.A.length kc) x.A)(hG:SlI w (.slice ag x.D.length kg) x.D)(A:a2p w x ac):
  Calls prog 31 #[x.v (.slice ar x.B.length kr) (.slice ac x.A.length kc) (.slice ag x.D.length kg)] w λe w'=>∃y ar kr ac kc ag kg,Hid (e=.returned (y.v (.slice ar y.B.length kr) (.slice ac y.A.length kc) (.slice ag y.D.length kg)))/\Hid (RoIs x y)/\Hid (HA w.heap.size w'.heap.size w' y ar kr ac kc ag kg)/\Ext w w':=by
 obtain⟨aa,U⟩:∃i:Inhabited uQ,Hid (∀q,(@default uQ i).z q=none):=⟨⟨⟨λ_=>none⟩⟩,λ_=>rfl⟩;have p:Ext w ((w.alloc (.cells #[iv x.M,iv x.K,iv x.born,.slice ar x.B.length kr,.slice ac x.A.length kc,iv x.E,iv x.I,iv x.sub,.slice ag x.D.length kg,iv x.per,iv x.V,iv x.Q,iv x.S] 34)).alloc (.cells #[iv 0,iv 0,iv 0,.slice none 0 0,.slice none 0 0,iv 0,iv 0,iv 0,.slice none 0 0,iv 0,iv 0,iv 0,iv 0] 34)):=((Ext.refl w).alloc _).alloc _;have S1:=uU (SlW.ext p hR);have S2:=uU (SlC.ext p hC);have S3:=uU (SlI.ext p hG);have S4:=uU (A.extS hC p);have D:((w.alloc (.cells #[iv x.M,iv x.K,iv x.born,.slice ar x.B.length kr,.slice ac x.A.length kc,iv x.E,iv x.I,iv x.sub,.slice ag x.D.length kg,iv x.per,iv x.V,iv x.Q,iv x.S] 34)).alloc (.cells #[iv 0,iv 0,iv 0,.slice none 0 0,.slice none 0 0,iv 0,iv 0,iv 0,.slice none 0 0,iv 0,iv 0,iv 0,iv 0] 34)).heap.size=w.heap.size+2:=by simp
 go_enter func31,ntmps31;go_wp2_with fail;refine(a3w x _ S1 S2 S3 S4).mono ?_;rintro e g ⟨j,J⟩;have x2:=p.trans j;have RC:=uU (show ∀o v,((w.alloc (.cells #[iv x.M,iv x.K,iv x.born,.slice ar x.B.length kr,.slice ac x.A.length kc,iv x.E,iv x.I,iv x.sub,.slice ag x.D.length kg,iv x.per,iv x.V,iv x.Q,iv x.S] 34)).alloc (.cells #[iv 0,iv 0,iv 0,.slice none 0 0,.slice none 0 0,iv 0,iv 0,iv 0,.slice none 0 0,iv 0,iv 0,iv 0,iv 0] 34)).cell? (aA (w.heap.size+1) o)=some v->g.cell? (aA (w.heap.size+1) o)=some v from λo v h=>j.keep h);have M:=uU (show ∀o,g.frozen? (aA (w.heap.size+1) o)=false from λo=>((uK j).2 (w.heap.size+1) o (by rw[D];omega)).trans (by simp [go_sem]));have ab:w.heap.size+2<=g.heap.size:=by have:=j.size;omega
 have f:=uH RC;have c:=uH M;have O:=f 0 (iv 0) (by simp [go_sem]);have P:=f 1 (iv 0) (by simp [go_sem]);have T:=f 2 (iv 0) (by simp [go_sem]);have Z:=f 3 (.slice none 0 0) (by simp [go_sem]);have r4:=f 4 (.slice none 0 0) (by simp [go_sem]);have Y:=f 5 (iv 0) (by simp [go_sem]);have r6:=f 6 (iv 0) (by simp [go_sem]);have r7:=f 7 (iv 0) (by simp [go_sem]);have Q:=f 8 (.slice none 0 0) (by simp [go_sem]);have R:=f 9 (iv 0) (by simp [go_sem]);have r:=f 10 (iv 0) (by simp [go_sem]);have n:=f 11 (iv 0) (by simp [go_sem]);have m:=f 12 (iv 0) (by simp [go_sem]);have f0:=c 0;have f1:=c 1;have f2:=c 2;have f3:=c 3;have f4:=c 4;have f5:=c 5;have f6:=c 6;have f7:=c 7;have f8:=c 8;have f9:=c 9;have G:=c 10;have H:=c 11;have L:=c 12;have d:w.heap.size+1<g.heap.size:=uL O;rcases uH J with⟨hn,rfl⟩ | ⟨hok,b,an,kn,rfl,hv,han⟩
 ·have N:=uU (show RoIs x Hp0 from .inr ⟨λh=>hn h,rfl⟩);go_wp2;refine bodyPost_ret (v:=Hp0.v (.slice none 0 0) (.slice none 0 0) (.slice none 0 0)) (by simp [results,results31,go_sem,Hp0,O,P,T,Z,r4,Y,r6,r7,Q,R,r,n,m]) rfl ⟨Hp0,none,0,none,0,none,0,rfl,N,HA.zero _ _ _,?_⟩;refine(λ(F:uX (λq=>q=w.heap.size+1) g _)=>F.ext x2 (λq j e=>by omega)) ?_
  repeat (first | refine uX.setCell ?_ (by simp) _ | exact uX.refl _ _)
 ·have B:=uU hok;have V:=uU hv;have GF:=uU (a4b hok);have C:=uU hok.snd;go_wp2_with fail;refine(b2x U x b _ V B.all.1 B.all.2.1 B.r5 GF.1).mono ?_;rintro e w4 ⟨s,rfl,hs,x4⟩;have ST:=uU (hs.soq U C);go_wp2_with fail;refine(c9u ST (by omega) C g (Nat.le_refl _) x4).mono ?_;rintro e w5 ⟨z,y,rfl,u,h5,x5⟩;have SY:=uU (show Snd y from(u.2.snd ((u.1.snd C).1.begin (u.1.snd C).2)).1);have IS:=uU (show RoIs x y from .inl ⟨B,z,u.1,u.2⟩);have QT:=uU (c3i h5 SY x5.size);go_wp2_with fail;refine QT.mono ?_;rintro e S ⟨X,t,l,k,pb,pa,pk,rfl,h6,x6⟩;have a:=x5.trans x6;have X6:=x2.trans a;have e0:=a.keep O;have e1:=a.keep P;have e2:=a.keep T;have e3:=a.keep Z;have e4:=a.keep r4;have e5:=a.keep Y;have e6:=a.keep r6;have e7:=a.keep r7;have e8:=a.keep Q;have e9:=a.keep R;have E:=a.keep r;have K:=a.keep n;have I:=a.keep m;have g0:=((uK a).2 (w.heap.size+1) 0 d).trans f0;have g1:=((uK a).2 (w.heap.size+1) 1 d).trans f1;have g2:=((uK a).2 (w.heap.size+1) 2 d).trans f2;have g3:=((uK a).2 (w.heap.size+1) 3 d).trans f3;have g4:=((uK a).2 (w.heap.size+1) 4 d).trans f4;have g5:=((uK a).2 (w.heap.size+1) 5 d).trans f5;have g6:=((uK a).2 (w.heap.size+1) 6 d).trans f6;have g7:=((uK a).2 (w.heap.size+1) 7 d).trans f7;have g8:=((uK a).2 (w.heap.size+1) 8 d).trans f8;have g9:=((uK a).2 (w.heap.size+1) 9 d).trans f9;have ae:=((uK a).2 (w.heap.size+1) 10 d).trans G;have ad:=((uK a).2 (w.heap.size+1) 11 d).trans H;have af:=((uK a).2 (w.heap.size+1) 12 d).trans L
  have RW:=uU (show ∀W,uX (λq=>q=w.heap.size+1) S W->HA w.heap.size W.heap.size W y (some (aA X 0)) t (some (aA l 0)) y.A.length (some (aA k 0)) y.D.length from λW o=>by
   have:=(h6.only o (λq h1 h2 e=>by omega)).grow (Nat.le_trans (Nat.le_refl _) o.size) (show w.heap.size<=g.heap.size by omega);exact .inr ⟨_,_,_,_,_,_,rfl,rfl,rfl,this⟩)
  go_wp2;refine bodyPost_ret (v:=y.v (sS X y.B.length t) (sS l y.A.length y.A.length) (sS k y.D.length y.D.length)) (by simp [results,results31,go_sem,e0,e1,e2,e3,e4,e5,e6,e7,e8,e9,E,K,I]) rfl ⟨y,_,_,_,_,_,_,rfl,IS,?_⟩;refine(λ(F:uX (λq=>q=w.heap.size+1) S _)=>⟨uH RW _ F,F.ext X6 (λq j e=>by omega)⟩) ?_
  repeat (first | refine uX.setCell ?_ (by simp) _ | exact uX.refl _ _)
end Go.Proofs.YtddkhnclmeikfaaGreat
