import Derived.Test.YtgkpaibbdkggiaaGreatDoorDmn
import Derived.Test.YtgkpaibbdkggiaaGreatDoorPh
import Derived.Test.YtgkpaibbdkggiaaGreatDoorWb
import Derived.Shelf.SlSortCmp.NoneTotal
import Derived.Shelf.SlicesG.Cmp
set_option maxRecDepth 100000
set_option maxHeartbeats 1000000
namespace Go.Proofs.YtgkpaibbdkggiaaGreatDoor
open Go.RowKit Tryz
attribute [local go_sem ↓] Go.wp_at_zero Go.wp_at_succ
variable{x y z:Hp}{b C kr br bn kn c a hd bd p i f r bs bh bx bl u cb co kp:Nat}{w w':World}{cB cO pb pk role:Nat->Nat}{F:List Int}{K Mt:List Nat}{ar ap:Option Addr}{v4 v8 vf vk rv:Value}{pa:Nat->Option Addr}{n op cd nm:Int}{R:Nat->Prop}
theorem d2u[qr]{B:Nat}(h:SAt B w b x ar kr v4 v8 br cB cO bn pb pa pk kn hd vf F vk K role)(g:x.E=4)(a:World)(c:a.heap.size<=B)(i:Ext a w):
  Calls prog 82 #[pP b] (w.setCell (aA b 4017) (.slice none 0 0)) λe w'=>e=.returned (yY 5 b)/\Hid (SAt B w' b (dC x 5 0) ar kr v4 v8 br cB cO bn pb pa pk kn hd vf F (.slice none 0 0) [] role)/\Ext a w':=by
 have d:=h.keptAs (vk':=.slice none 0 0) (K':=[]) (mB _ _ _ _) (λq f=>by simp[Value.ownBlock]at f);exact a7k d 4 g rfl rfl (by omega) a c (i.sc b 4017 (kA c h.sb.lo.1) _)
theorem d2v[qr]{B:Nat}(h:SAt B w b x ar kr v4 v8 br cB cO bn pb pa pk kn hd vf F vk K role)(i:zQ C x F K)(hC:C<=1000000000)(s:Snd x)(hp:x.E=4)(a:World)(ha:a.heap.size<=B)(hx:Ext a w):
  Calls prog 277 #[.agg #[pP b]] w λe w'=>e=.returned (yY (unit4 x).E b)/\Hid (∃pb' pa' pk' vf' F' vk' K' role',SAt B w' b (unit4 x) ar kr v4 v8 br cB cO bn pb' pa' pk' kn hd vf' F' vk' K' role'/\zQ C (unit4 x) F' K')/\Ext a w':=by
 have XA:=(hO w).alloc (.cells #[pP b] 213);have GP:=uU (c6s (h.ext XA) i.ho (by have:=i.le;omega) i.nn);have H:=uU (h.ext XA);have S:=uU s;have I:=uU i;have D:=uU hp;have XS:=uU (hx.trans XA);have m0:(w.alloc (.cells #[pP b] 213)).cell? (aA w.heap.size 0)=some (pP b):=by simp[go_sem]
 have ao:b<w.heap.size:=h.sb.nb.1;have lo:=h.sb.lo.1;have hK:K.length<=8000:=by
  have k4:=i.k4 hp;have:=b4k x.A.length K (k4.1.imp (λh=>Nat.ne_of_lt h)) (λi hi=>(k4.2.1 i hi).1);have:=s.ok.n8;omega
 have R:=uU (show ∀q,vf.ownBlock=some q->q<w.heap.size from λq hq=>(h.sb.fr.own.lt q hq).2);have ag:¬w.heap.size=b:=by omega
 have U:=uU (show br<w.heap.size/\(∀j,j<x.A.length->cB j<w.heap.size) from⟨(h.rw.nr (by have:=s.r1.B;omega)).1.1,λj hn=>(h.rw.nc j hn).1.1⟩);clear h s i hp XA;go_in;go_wp21;refine GP.mono ?_;rintro e L ⟨t,vf',F',rfl,lq,r⟩;have M:=lq.2;have NF:Nf1 b L:=⟨kF H.sb.nb.1 M.size,λj=>(M.hfr j).trans (H.sb.nb.2 j)⟩;obtain⟨af,O⟩:=H.freed lq.1 M NF;have T:=uU O;have X1:=uU (M.ext XS (show a.heap.size<=b by omega) (λk hk=>by have:=(H.sb.fr.own.lt k hk).1;omega));have m1:L.cell? (aA w.heap.size 0)=some (pP b):=M.A m0 ag (λe=>by have:=uH R _ e;omega);have J:=O.sb.k0;have ab:=O.sb.nb.2 4017;obtain⟨aq,n,ac⟩:∃a k,vk=.slice a K.length k:=⟨_,_,(a0d O.sb.kp).1⟩;subst ac;have aa:=cLt m1;have ME:=uU (show ∀W,Ext L W->unit4 x=dC x 5 0->Calls prog 82 #[pP b] (W.setCell (aA b 4017) (.slice none 0 0)) λe w'=>e=.returned (yY (unit4 x).E b)/\Hid (∃pb' pa' pk' vf' F' vk' K' role',SAt B w' b (unit4 x) ar kr v4 v8 br cB cO bn pb' pa' pk' kn hd vf' F' vk' K' role'/\zQ C (unit4 x) F' K')/\Ext a w' from λW Y e4=>by
  refine(d2u (O.ext Y) D a ha (X1.trans Y)).mono ?_;rintro e w2 ⟨rfl,A,u⟩;rw[e4];exact⟨rfl,⟨_,_,_,_,_,_,_,_,A,d2s I D r.1⟩,u⟩)
 clear O M lq NF m0 H XS;obtain _|j:=t
 ·have V:=uU (c8s I r.1 r.2);simp only[gapV];go_wp21;go_quiet (fail);obtain⟨d1,G⟩:∃m,m=nq:=⟨_,rfl⟩;go_wp21;refine(ME _ ((hO _).drewN _) V).mono ?_;rintro e w2 ⟨rfl,A,u⟩;go_wp21;go_ret;exact⟨rfl,A,u⟩
 simp only[gapV];have GT:=uU (show j<x.A.length/\(x.c j).st=0/\∀v,v∈F'->(j:Int)<=v from r.2);have P:j<x.A.length:=GT.1;obtain o|⟨E,l,o⟩:=List.eq_nil_or_concat K
 ·subst o;have V:=uU (d2t I D);simp only[List.length_nil]at J;go_wp21;go_quiet (fail);obtain⟨d1,G⟩:∃m,m=nq:=⟨_,rfl⟩;go_wp21;refine(ME _ ((hO _).drewN _) V).mono ?_;rintro e w2 ⟨rfl,A,u⟩;go_wp21;go_ret;exact⟨rfl,A,u⟩
 rw[List.concat_eq_append]at o;subst o;obtain⟨m,hm⟩:=obE E.length;have d:(E++[l]).length=m+1:=by simp[hm]
 obtain⟨g,al,hv,_,_⟩:=T.sb.kp.form (by rw[d];omega);injection hv with ah ai ak;subst ah ak;have N:=T.sb.kp;have kc:L.cell? (aA g m)=some (ndp bn l):=by
  rw[N.cellAt m (by rw[d];omega)];simp[hm]
 have LL:=uU ((I.k4 D).2.1 l (by simp));have Q:l<x.A.length:=LL.1;have ad:=(T.sb.nd j P).1;have ae:=(T.sb.nd l Q).1;rw[d]at J hK;have HL:=uU d;have HM:=uU hm;have an:=i0N m;have ap:(m:Int)<(m:Int)+1:=by omega
 have mc:(m:Int)<=(n:Int):=by
  obtain⟨e,_⟩|⟨g',cap',cur,e1,_,_,e4,_⟩:=N.2;simp at e;injection e1 with _ _ e1;rw[d]at e4;omega
 clear hm d ai N;by_cases X:l<j
 ·have V:=uU (c8t I D r.1 r.2 X);have gt:(j:Int) > (l:Int):=by omega
  go_wp21;go_quiet (fail);obtain⟨d1,G⟩:∃m,m=nq:=⟨_,rfl⟩;go_wp21;refine(ME _ ((hO _).drewN _) V).mono ?_;rintro e w2 ⟨rfl,A,u⟩;go_wp21;go_ret;exact⟨rfl,A,u⟩
 have Z:=uU (go_move I D r.1 r.2 X);have EP:=uU (show(unit4 x).E=4 by rw[Z.2.2.1];exact D);have aj:=uU (show ∀f,(∃pb' pa' pk' role',SAt B f b (qK x j l) ar kr v4 v8 br cB cO bn pb' pa' pk' kn hd vf' F' (sS g (E++[l]).length n) (E++[l]) role')->Ext a f->∀W',Ext f W'->Hid (∃pb' pa' pk' vf' F' vk' K' role',SAt B (W'.setCell (aA b 4017) (sS g m n)) b (unit4 x) ar kr v4 v8 br cB cO bn pb' pa' pk' kn hd vf' F' vk' K' role'/\zQ C (unit4 x) F' K')/\Ext a (W'.setCell (aA b 4017) (sS g m n)) from λf y x3 W' Y=>by
  obtain⟨pb',pa',pk',role',y⟩:=y;have h4:=y.ext Y;have N:=c5a h4.sb.kp;rw[<-uH HM]at N;rw[Z.2.2.1];refine⟨⟨pb',pa',pk',vf',F',_,E,role',h4.keptAs (by rw[<-uH HM];exact N) (λq hq=>hq),Z.2.2.2⟩,(x3.trans Y).sc b 4017 (show a.heap.size<=b by omega) _⟩)
 go_wp21;go_quiet (fail);obtain⟨d1,G⟩:∃m,m=nq:=⟨_,rfl⟩;go_wp21;go_region_with (go_at_call 278;refine(c8r (T.ext (((hO L).drewN _).drew)) S j l Z.2.1 P Q a ha (X1.trans (((hO L).drewN _).drew))).mono ?_;rintro e f ⟨rfl,y,x3⟩);all_goals
  have Y3:=uU (show ∃pb' pa' pk' role',SAt B f b (qK x j l) ar kr v4 v8 br cB cO bn pb' pa' pk' kn hd vf' F' (sS g (E++[l]).length n) (E++[l]) role' by obtain⟨pb',pa',pk',role',z,_⟩:=uH y;exact⟨_,_,_,_,z⟩);have am:f.cell? (aA b 4017)=some (sS g (m+1) n):=by
   obtain⟨pb',pa',pk',role',z⟩:=Y3;have:=z.sb.k0;rw[uH HL]at this;exact this
  have u17:f.frozen? (aA b 4017)=false:=by
   obtain⟨pb',pa',pk',role',z⟩:=Y3;exact z.sb.nb.2 4017
  have t0:f.cell? (aA w.heap.size 0)=some (pP b):=by
   obtain⟨pb',pa',pk',role',_,z⟩:=y;exact(cOb w.heap.size 0 (z w.heap.size (by simpa using aa) (λe=>by have:=U.1;omega) (λj hj e=>by have:=U.2 j hj;omega))).trans m1
  have FN:=uU (aj f Y3 x3);clear y J ab kc ad ae;go_wp21;go_region;all_goals
   go_wp21;go_ret;exact⟨by rw[uH EP];rfl,(FN f.drew (eDr f)).1,(FN f.drew (eDr f)).2⟩
def SOq[qr](C B:Nat)(w:World)(b:Nat)(x:Hp):Prop:=∃ar kr a4 n4 k4 a8 m8 k8 br cB cO bn pb pa pk kn hd vf F vk K role,SAt B w b x ar kr (.slice a4 n4 k4) (.slice a8 m8 k8) br cB cO bn pb pa pk kn hd vf F vk K role/\zQ C x F K/\2*x.M<=(kn:Int)/\(default:uL).z bn=none
theorem SOq.ext[qr]{B:Nat}(h:SOq C B w b x)(e:Ext w w'):SOq C B w' b x:=by
 have⟨z,m,u,f,j,y,c,r,d,k,s,n,l,v,g,t,p,o,F,q,K,a,h,i⟩:=h;exact⟨z,m,u,f,j,y,c,r,d,k,s,n,l,v,g,t,p,o,F,q,K,a,h.ext e,i⟩
theorem a4m(x:Hp)(y:Wd):(uX x y).M=x.M:=by grind[uX,cC]
theorem b2a:∀(ys:List Wd)(z:Hp),(ys.foldl uX z).M=z.M
 | [],_=>rfl
 | y::ys,z=>(b2a ys (uX z y)).trans (a4m z y)
theorem d2z(x:Hp):(eH x).M=x.M:=by
 unfold eH;split;rfl;grind[kZ,Hp.c,SAt.I,Snd.I,cC,eH]
theorem d3a(x:Hp):(dW x).M=x.M:=by
 unfold dW;split;grind[a4m,dW];split
 ·exact b2a x.B x
 exact b2a x.B x
theorem b9k(x:Hp):(dD x).M=x.M:=by
 unfold dD;split;rfl;split <;> rfl
theorem d3b(x:Hp):(unit4 x).M=x.M:=by
 unfold unit4;split <;> rfl
theorem d3c(x:Hp):(dK x).M=x.M:=by
 unfold dK;split;rfl;split <;> rfl
theorem c5e(x:Hp):(dX x).M=x.M:=by
 unfold dX tZ;split;rfl;split <;> rfl
theorem c9c[qr]{B:Nat}(h:SOq C B w b x)(s:Snd x)(c:x.E=1)(a:World)(l:a.heap.size<=B)(k:Ext a w):
  Calls prog 272 #[.agg #[pP b]] w λe w'=>e=.returned (yY (eH x).E b)/\Hid (SOq C B w' b (eH x))/\Ext a w':=by
 have⟨q,H,A,u,E,N,P,v,O,M,I,o,D,r,L,n,G,t,F,y,K,j,h,i,m⟩:=h;have J:=s.r1.I;have g:2*(eH x).M<=(n:Int)/\(default:uL).z o=none:=by rw[d2z];exact m
 by_cases p:x.I=x.A.length
 focus refine(c8o h c p a l k).mono ?_
 rotate_left
 focus refine(c4y h s c x.I.toNat (by omega) (by omega) a l k).mono ?_
 all_goals
  rintro e w' ⟨rfl,f,d⟩;exact⟨rfl,⟨_,_,_,_,_,_,_,_,_,_,_,_,_,_,_,_,_,_,_,_,_,_,f,inv1 i c,g⟩,d⟩
theorem c9d[qr]{C B:Nat}{w:World}{b:Nat}{x:Hp}(h:SOq C B w b x)(s:Snd x)(d:x.E=2)(a:World)(p:a.heap.size<=B)(o:Ext a w):
  Calls prog 273 #[.agg #[pP b]] w λe w'=>e=.returned (yY (dW x).E b)/\Hid (SOq C B w' b (dW x))/\Ext a w':=by
 have⟨y,P,L,E,N,U,W,H,V,T,Q,u,M,A,S,t,O,D,F,I,K,q,h,i,r⟩:=h;have R:=s.r1.sub;have m:=s.ok.n8;have n:2*(dW x).M<=(t:Int)/\(default:uL).z u=none:=by rw[d3a];exact r
 cases l:x.D with
 | nil=>
  refine(c8y h s d l a p o).mono ?_;rintro e w' ⟨rfl,k,f⟩;exact⟨rfl,⟨_,_,_,_,_,_,_,_,_,_,_,_,_,_,_,_,_,_,_,_,_,_,k,inv2 i d m,n⟩,f⟩
 | cons g G=>
  have⟨J,X⟩:=s.r5.2.2 g (by rw[l];simp);obtain⟨j,rfl⟩:∃j:Nat,g=(j:Int):=⟨g.toNat,by omega⟩;by_cases v:x.sub<((x.c j).F.length:Int)
  focus refine(c8x h s d j G l (by omega) x.sub.toNat (by omega) (by omega) a p o).mono ?_
  rotate_left
  focus refine(c5b h m d j G l (by omega) v a p o).mono ?_
  all_goals
   rintro e w' ⟨rfl,k,f⟩;exact⟨rfl,⟨_,_,_,_,_,_,_,_,_,_,_,_,_,_,_,_,_,_,_,_,_,_,k,inv2 i d m,n⟩,f⟩
theorem c9e[qr]{B:Nat}(h:SOq C B w b x)(hC:C<=1000000000)(s:Snd x)(g:x.E=3)(a:World)(y:a.heap.size<=B)(v:Ext a w):
  Calls prog 275 #[.agg #[pP b]] w λe w'=>e=.returned (yY (dD x).E b)/\Hid (SOq C B w' b (dD x))/\Ext a w':=by
 have⟨T,kr,a4,X,k4,a8,m8,Y,br,cB,cO,bn,pb,U,pk,kn,hd,V,F,Z,K,H,h,iv,u⟩:=h;have hh:=s.r1.I;have S:=s.ok.n8;by_cases t:x.I=x.A.length;have f:dD x=dC x 4 0:=by unfold dD;rw[if_pos t]
 refine(c8z h g t a y v).mono ?_;rintro e w' ⟨rfl,j,m⟩;exact⟨rfl,⟨_,_,_,_,_,_,_,_,_,_,_,_,_,_,_,_,_,_,_,_,_,_,j,f▸d2f iv g t,by rw[b9k];exact u⟩,m⟩;obtain⟨i,k⟩:∃i:Nat,x.I=(i:Int):=⟨x.I.toNat,by omega⟩;have d:i<x.A.length:=by omega
 have J:x.I.toNat=i:=by omega
 cases r:((x.c i).st == 1)
 have G:(x.c i).st≠1:=by simpa using r
 have f:=b5r s i k d G;have l:=b1z (z:=dD x) iv g (f▸g) i k d (by rw[f]) (by rw[f]) (λq _=>by rw[f];rfl) iv.ho (.inl ⟨rfl,f▸id⟩);rw[if_neg (f▸G),qA]at l;refine(c5c h s g i k d r a y v).mono ?_;rintro e w' ⟨rfl,j,m⟩;exact⟨rfl,⟨_,_,_,_,_,_,_,_,_,_,_,_,_,_,_,_,_,_,_,_,_,_,j,l,by rw[b9k];exact u⟩,m⟩;have E:(x.c i).st=1:=by simpa using r
 cases D:((x.c i).J == 0)
 focus
  have f:dD x={ x with A:=x.A.set i (tC (x.c i)),I:=(i:Int)+1 }:=by
   unfold dD;rw[if_neg t,J,if_neg (by simp[whB,D]),k]
  have o:∀q,(dD x).c q=if q=i then tC (x.c i) else x.c q:=λq=>by
   rw[f];exact Hp.c_set x i (tC (x.c i)) d q
  have l:=b1z (z:=dD x) iv g (f▸g) i k d (by rw[f]) (by rw[f];simp) (λq p=>by rw[o,if_neg p]) iv.ho (.inl ⟨rfl,by rw[o,if_pos rfl];exact id⟩);rw[if_pos (by rw[o,if_pos rfl];exact E)]at l;have P:K.length<=8000:=by
   have I:=iv.k3 g;have:=b4k x.A.length K (I.1.imp (λh=>Nat.ne_of_lt h)) (λq p=>by have:=(I.2.1 q p).1;omega);omega
  refine(c5d h S g i k d r D P a y v).mono ?_;rintro e w' ⟨rfl,j,m⟩;have⟨Q,n,j⟩:=uH j
 rotate_left
 focus
  have L:whB (x.c i)=true:=by simp[whB,r,D]
  have f:dD x={ x with K:=x.K-(1+(x.c i).F.length),A:=x.A.set i Cl0,I:=(i:Int)+1 }:=by
   unfold dD;rw[if_neg t,J,if_pos L,k]
  have o:∀q,(dD x).c q=if q=i then Cl0 else x.c q:=λq=>by
   rw[f];exact Hp.c_set x i Cl0 d q
  refine(c2a h s g i k d L iv.ho (by have:=iv.le;omega) a y v).mono ?_;rintro e w' ⟨rfl,j,m⟩;have⟨N,M,O,W,n,j,A,R⟩:=uH j;have l:=b1z (z:=dD x) iv g (f▸g) i k d (by rw[f]) (by rw[f];simp) (λq p=>by rw[o,if_neg p]) A (.inr R);rw[if_neg (by rw[o,if_pos rfl];simp[Cl0]),qA]at l
 all_goals
  exact⟨rfl,⟨_,_,_,_,_,_,_,_,_,_,_,_,_,_,_,_,_,_,_,_,_,_,j,l,by rw[b9k];exact u⟩,m⟩
theorem c9f[qr]{B:Nat}(h:SOq C B w b x)(t:C<=1000000000)(s:Snd x)(u:x.E=4)(a:World)(y:a.heap.size<=B)(v:Ext a w):
  Calls prog 277 #[.agg #[pP b]] w λe w'=>e=.returned (yY (unit4 x).E b)/\Hid (SOq C B w' b (unit4 x))/\Ext a w':=by
 have⟨A,P,L,H,N,T,V,I,U,S,Q,k,M,D,R,j,O,E,F,J,K,f,h,iv,i⟩:=h;have m:2*(unit4 x).M<=(j:Int)/\(default:uL).z k=none:=by rw[d3b];exact i
 refine(d2v h iv t s u a y v).mono ?_;rintro e w' ⟨rfl,c,n⟩;have⟨p,l,g,q,G,r,W,d,c,o⟩:=uH c;exact⟨rfl,⟨_,_,_,_,_,_,_,_,_,_,_,_,_,_,_,_,_,_,_,_,_,_,c,o,m⟩,n⟩
theorem c9g[qr]{B:Nat}(h:SOq C B w b x)(s:Snd x)(j:x.E=5)(a:World)(p:a.heap.size<=B)(o:Ext a w):
  Calls prog 279 #[.agg #[pP b]] w λe w'=>e=.returned (yY (dK x).E b)/\Hid (SOq C B w' b (dK x))/\Ext a w':=by
 have⟨A,O,J,G,M,T,V,H,U,S,P,v,L,D,R,u,N,E,F,I,K,q,h,i,t⟩:=h;have Q:=s.r1.I;have W:=s.r1.sub;have m:=s.ok.n8;have n:2*(dK x).M<=(u:Int)/\(default:uL).z v=none:=by rw[d3c];exact t
 by_cases y:x.I=x.A.length;refine(d2w h j y a p o).mono ?_;rintro e w' ⟨rfl,l,k⟩;exact⟨rfl,⟨_,_,_,_,_,_,_,_,_,_,_,_,_,_,_,_,_,_,_,_,_,_,l,inv5 i j m,n⟩,k⟩;have f:x.I.toNat<x.A.length:=by omega
 by_cases g:x.sub.toNat<(x.c x.I.toNat).F.length;focus
  have r:=((s.r4.2 x.I.toNat f).2 x.sub.toNat g).2 (λd=>by have:=d.1;omega);refine(c8v h j x.I.toNat (by omega) f x.sub.toNat (by omega) g s.r2 r.1.1 r.2.1 a p o).mono ?_
 rotate_left
 focus refine(c8u h m j x.I.toNat (by omega) f x.sub.toNat (by omega) g a p o).mono ?_
 all_goals
  rintro e w' ⟨rfl,l,k⟩;exact⟨rfl,⟨_,_,_,_,_,_,_,_,_,_,_,_,_,_,_,_,_,_,_,_,_,_,l,inv5 i j m,n⟩,k⟩
theorem c9h[qr]{B:Nat}(h:SOq C B w b x)(hC:C<=1000000000)(s:Snd x)(d:x.E=6)(a:World)(H:a.heap.size<=B)(G:Ext a w):
  Calls prog 280 #[.agg #[pP b]] w λe w'=>e=.returned (yY (dX x).E b)/\Hid (SOq C B w' b (dX x))/\Ext a w':=by
 have⟨P,kr,W,T,Y,a8,m8,U,br,cB,cO,bn,X,Q,pk,Z,hd,R,F,V,K,D,h,iv,y⟩:=h;have hh:=s.r1.I;by_cases E:x.I=0;refine(d2y h d E s.r1.Q a H G).mono ?_;rintro e w' ⟨rfl,k,u⟩;have n:(dX x).E=0/\(dX x).A=x.A:=by unfold dX;rw[if_pos E];exact⟨rfl,rfl⟩
 exact⟨rfl,⟨_,_,_,_,_,_,_,_,_,_,_,_,_,_,_,_,_,_,_,_,_,_,k,d2g iv d n.1 n.2,by rw[c5e];exact y⟩,u⟩;have⟨i,A⟩:∃i:Nat,x.I=(i:Int)+1:=⟨(x.I-1).toNat,by omega⟩;have l:i<x.A.length:=by omega
 have n:dX x=tZ (dV x i) i:=by unfold dX;rw[if_neg (by omega),show(x.I-1).toNat=i by omega]
 have g:(dV x i).A.length=x.A.length:=by unfold dV;split <;> simp
 have m:∀q,(dV x i).c q=if q=i/\(x.c i).st=2 then Cl0 else x.c q:=λq=>by
  by_cases o:(x.c i).st=2;have:(dV x i).c q=({ x with A:=x.A.set i Cl0 }:Hp).c q:=by unfold dV;rw[if_pos o];rfl
  rw[this,Hp.c_set x i Cl0 l q];by_cases e:q=i;rw[if_pos e,if_pos ⟨e,o⟩];rw[if_neg e,if_neg (λh=>e h.1)];have:(dV x i).c q=x.c q:=by unfold dV;rw[if_neg o];rfl
  rw[this,if_neg (λh=>o h.2)]
 have j:(dX x).E=6/\(dX x).I=(i:Int)/\(dX x).A.length<=x.A.length/\∀q,q<(dX x).A.length->(dX x).c q=(dV x i).c q:=by
  rw[n];unfold tZ;split;refine⟨d,rfl,by simp[g];omega,λq f=>?_⟩;simp at f;simp only[Hp.c,List.getD_eq_getElem?_getD,List.getElem?_take];rw[if_pos (by omega)];exact⟨d,rfl,by rw[g];omega,λq _=>rfl⟩
 refine(c9b h s.ok.n8 d i A l (by have:=s.r1.A;omega) iv.ho (by have:=iv.le;omega) a H G).mono ?_;rintro e w' ⟨rfl,k,u⟩;have⟨L,I,M,S,v,k,r,N⟩:=uH k;exact⟨rfl,⟨_,_,_,_,_,_,_,_,_,_,_,_,_,_,_,_,_,_,_,_,_,_,k,c8n (z:=dX x) iv d j.1 i A j.2.1 j.2.2.1 (λq f t=>by rw[j.2.2.2 q f,m,if_neg (λh=>t h.1)]) r (by
  obtain⟨_,p⟩|⟨n2,p⟩:=N;exact .inr p;exact .inl ⟨p,λf=>by rw[j.2.2.2 i f,m,if_neg (λh=>n2 h.2)];exact id⟩),by rw[c5e];exact y⟩,u⟩
theorem b5s(x:Hp):(cJ x).M=x.M:=by
 unfold cJ;repeat (first|(split)|exact d2z x|exact d3a x|exact b9k x|exact d3b x|exact d3c x|exact c5e x|rfl)
theorem a7p:∀(k:Nat)(x:Hp),(itU k x).M=x.M
 | 0,_=>rfl
 | k+1,x=>by
  first
   | exact(a7p k (cJ x)).trans (b5s x)
   | exact(b5s (itU k x)).trans (a7p k x)
theorem b7v(h:a8z x y):y.M=x.M:=by
 have⟨k,_,e⟩:=h;rw[e];exact a7p k x
theorem a9y.M(h:a9y x y):y.M=x.M:=by
 have⟨z,a,b⟩:=h;exact(b7v b).trans (b7v a:z.M=x.M)
theorem tY.M(h:tY x u y):y.M=x.M:=by
 obtain h|h:=h;rw[h.2];exact h.2.M
theorem b5t(x:Hp)(n:Nat):(stepH x n).M=x.M:=by unfold stepH;split <;> rfl
theorem tL.M(h:tL x u y):y.M=x.M:=by
 obtain h|⟨_,k,_,h⟩:=h;rw[h.2];rw[h];exact(a7p k _).trans (b5t x _)
theorem a9h(x:Hp)(H:Nat->Bool):∀k,(cY x H k).M=x.M
 | 0=>rfl
 | k+1=>by
  unfold cY;split;exact a9h x H k;exact a9h x H k
theorem a9i(x z:Hp)(H:Nat->Bool):∀k,(zY x z H k).M=z.M
 | 0=>rfl
 | k+1=>by
  unfold zY;split;exact a9i x z H k;exact a9i x z H k
theorem a1q.M(h:a1q x f c y cd nm R)(a:∀i,R i->y.M=x.M):y.M=x.M:=by
 obtain h|h|h:=h;rw[h.2.1];rw[h.2.2.1];exact a _ h.2.2.1
theorem a0z.M(h:a0z x f y cd nm R)(a:∀i,R i->y.M=x.M):y.M=x.M:=by
 obtain h|h:=h;rw[h.2.1];exact a _ h.2
theorem DoR.M{k:Nat}(h:DoR x a b c n y cd nm k):y.M=x.M:=by
 unfold DoR at h;split at h;obtain h|⟨_,z,d,h|h⟩:=h.2
 ·rw[h.2.1]
 rw[h.2.1];exact d.M;exact(tL.M h.2.2).trans (d.M:z.M=x.M);rw[h.1];rfl;rw[h.1];rfl;rw[h.1];rfl;exact h.M (λi r=>by rw[r];rfl);exact h.M (λi r=>by rw[r];rfl);exact h.M (λi r=>by rw[r,a4m];rfl);exact h.M (λi r=>by rw[r,a4m];rfl);refine h.M (λi r=>?_);obtain h|⟨_,z,d,h|h⟩:=r.2
 ·rw[h.2.1]
 rw[h.2.1];exact d.M;exact(tL.M h.2.2).trans (d.M:z.M=x.M);exact h.M (λi r=>by rw[r.1];rfl);exact h.M (λi r=>by rw[r.1];rfl);refine h.M (λi r=>?_);rw[r.1];split
 ·rw[(cC _ _).1];rfl
 rfl;rw[h.1];rw[h.1];rw[h.1];exact h.M (λi r=>by rw[r.1]);exact h.M (λi r=>by rw[r.1]);have⟨_,H,_,e,_⟩:=h;rw[e];exact(a9i _ _ _ _).trans (a9h _ _ _);obtain h|⟨i,h⟩:=h.2
 ·rw[h.2.1];rfl
 rw[h.2.1];rfl;rw[h.1];rw[h.1];have⟨_,_,k,_,e⟩:=h;rw[e];exact(a7p k _).trans (b5t x _);rw[h.1];rfl;exact h.2.2.M;exact h.elim
theorem b3c(x:Hp)(y:Wd):(uX x y).born=x.born:=by grind[uX,cC]
theorem b2b:∀(ys:List Wd)(z:Hp),(ys.foldl uX z).born=z.born
 | [],_=>rfl
 | y::ys,z=>(b2b ys (uX z y)).trans (b3c z y)
theorem uborn1(x:Hp):(eH x).born=x.born:=by
 unfold eH;split;rfl;grind[kZ,Hp.c,SAt.I,Snd.I,cC,eH]
theorem uborn2(x:Hp):(dW x).born=x.born:=by
 unfold dW;split;grind[b3c,dW];split
 ·exact b2b x.B x
 exact b2b x.B x
theorem uborn3(x:Hp):(dD x).born=x.born:=by
 unfold dD;split;rfl;split <;> rfl
theorem uborn4(x:Hp):(unit4 x).born=x.born:=by
 unfold unit4;split <;> rfl
theorem uborn5(x:Hp):(dK x).born=x.born:=by
 unfold dK;split;rfl;split <;> rfl
theorem uborn6(x:Hp):(dX x).born=x.born:=by
 unfold dX tZ;split;rfl;split <;> rfl
theorem b5u(x:Hp):(cJ x).born=x.born:=by grind[cJ,qV.first,uborn1,uborn2,uborn3,uborn4,uborn5,uborn6]
theorem b5v:∀(k:Nat)(x:Hp),(itU k x).born=x.born
 | 0,_=>rfl
 | k+1,x=>by
  first
   | exact(b5v k (cJ x)).trans (b5u x)
   | exact(b5u (itU k x)).trans (b5v k x)
theorem b7w(h:a8z x y):y.born=x.born:=by grind[a8z,b5v]
theorem a9y.bornE(h:a9y x y):y.born=x.born:=by
 have⟨z,a,b⟩:=h;exact(b7w b).trans (b7w a:z.born=x.born)
theorem tY.bornE(h:tY x u y):y.born=x.born:=by
 obtain h|h:=h;rw[h.2];exact h.2.bornE
theorem a7d.snd(s:Snd x)(q:b<=255)(l:c<=200)(h:a7d x a b c y cd nm):Snd y:=by
 obtain h|⟨m,z,d,h|h⟩:=h.2;rw[h.2.1];exact s;rw[h.2.1];exact d.snd s;have o:=d.bornE;have n:=s.r1.born;have j:z.K+(1+c)<=z.M:=by have e:=h.1;unfold zV at e;have:=of_decide_eq_true e;omega
 have⟨f,k,p,g⟩:=(d.snd s).make b c (by omega) l (by omega) j;refine h.2.2.snd (f.regTo a ⟨2,0,uE z⟩ ⟨.inr (.inr ⟨rfl,rfl,by show(0:Int)<=(uE z:Nat);omega,by show((uE z:Nat):Int)<_;omega⟩),λ_=>.inr ⟨k,g⟩⟩)
theorem SOq.box[qr]{B:Nat}(h:SOq C B w b x):w.cell? (aA b 5)=some (iv x.E)/\w.frozen? (aA b 5)=false/\B<=b/\b<w.heap.size:=by
 obtain⟨c,q,k,f,m,u,y,g,v,t,r,o,l,d,s,n,p,e,F,j,K,a,h,i⟩:=h;exact⟨h.sb.bx.2.2.2.2.2.1,h.sb.nb.2 5,h.sb.lo.1,h.sb.nb.1⟩
def unitN : String := "loop.example/spool/impl.unit"
theorem d3s[qr]{B:Nat}(h:SOq C B w b x)(M:C<=1000000000)(s:Snd x)(A:x.E≠0)(a:World)(v:a.heap.size<=B)(c:Ext a w):
  ∃T F,yY x.E b=.iface T (.agg #[pP b])/\(∀W,(binOp .neq 133 (.iface T (.agg #[pP b])) .nilIface).run prog W=.ok (.bool true) W)/\(∀W s,s=unitN->(method 395 T (.agg #[pP b]) s).run prog W=.ok (F,.agg #[pP b]) W)/\(∀W,(callFunc F #[.agg #[pP b]]).run prog W=.ok (.enter F #[.agg #[pP b]]) W)/\Hid (Calls prog F #[.agg #[pP b]] w λe w'=>e=.returned (yY (cJ x).E b)/\Hid (SOq C B w' b (cJ x))/\Ext a w'):=by
 have p:=s.r1.E;obtain e|e|e|e|e|e:=(show x.E=1\/x.E=2\/x.E=3\/x.E=4\/x.E=5\/x.E=6 by omega);refine⟨_,272,by rw[e];rfl,λ_=>by kernel_rfl,λ_ _ h=>by subst h;kernel_rfl,λ_=>by kernel_rfl,?_⟩;rw[show cJ x=eH x by simp[cJ,e]];exact c9c h s e a v c;refine⟨_,273,by rw[e];rfl,λ_=>by kernel_rfl,λ_ _ h=>by subst h;kernel_rfl,λ_=>by kernel_rfl,?_⟩;rw[show cJ x=dW x by simp[cJ,e]];exact c9d h s e a v c;refine⟨_,275,by rw[e];rfl,λ_=>by kernel_rfl,λ_ _ h=>by subst h;kernel_rfl,λ_=>by kernel_rfl,?_⟩;rw[show cJ x=dD x by simp[cJ,e]];exact c9e h M s e a v c;refine⟨_,277,by rw[e];rfl,λ_=>by kernel_rfl,λ_ _ h=>by subst h;kernel_rfl,λ_=>by kernel_rfl,?_⟩;rw[show cJ x=unit4 x by simp[cJ,e]];exact c9f h M s e a v c;refine⟨_,279,by rw[e];rfl,λ_=>by kernel_rfl,λ_ _ h=>by subst h;kernel_rfl,λ_=>by kernel_rfl,?_⟩;rw[show cJ x=dK x by simp[cJ,e]];exact c9g h s e a v c;refine⟨_,280,by rw[e];rfl,λ_=>by kernel_rfl,λ_ _ h=>by subst h;kernel_rfl,λ_=>by kernel_rfl,?_⟩;rw[show cJ x=dX x by simp[cJ,e]];exact c9h h M s e a v c
theorem a4f[qr]{B:Nat}(n:Nat)(h:SOq C B w b x)(M:C<=1000000000)(s:Snd x)(a:World)(v:a.heap.size<=B)(hx:Ext a w):
  Calls prog 83 #[pP b,iv n] w λe w'=>∃k:Nat,e=.returned (iv k)/\Hid (a2f x n k)/\Hid (SOq C B w' b (itU k x))/\Ext a w':=by
 have R:=uU h;have S:=uU s;have N:=uU (b3q x.E b w h.box.1 s.r1.E);have O:=uU hx;go_in;go_wp21;refine N.mono ?_;rintro e w1 ⟨rfl,E⟩;subst E;go_wp21;go_loopg [5,6] (14000000) (λV u I wr=>∃k:Nat,u=iv k/\I=yY (itU k x).E b/\Hid (k<=n)/\Hid (kY x k)/\Hid (mu (itU k x)<=V)/\Hid (SOq C B wr b (itU k x))/\Hid (Ext a wr))
 case atStart=>exact⟨0,rfl,rfl,kB _,kY.zero _,S.mu_le,R,O⟩
 case round=>
  obtain⟨k,rfl,rfl,o,D,q,m,c⟩:=hrel;have kl:=D.le S;have SK:=uU (S.itU k);by_cases A:(itU k x).E=0
  ·have U:=uU A;have Y:yY (itU k x).E b=.nilIface:=by rw[A];rfl
   have q0:∀W,(binOp .neq 133 .nilIface .nilIface).run prog W=.ok (.bool false) W:=λ_=>by kernel_rfl
   rw[Y];go_wp2;go_ret;exact⟨k,rfl,⟨D,o,.inr U⟩,m,c⟩
  obtain⟨T,F,f,r,mt,cf,QU⟩:=d3s m M SK A a v c;by_cases P:k<n
  ·have h1:(k:Int)<(n:Int):=by omega
   have R3:=uU (D.succ A);have t:=uU (show mu (itU (k+1) x)<mu (itU k x) from SK.less A);have wk:wrap64 ((k:Int)+1)=(k:Int)+1:=by unfold wrap64;omega
   have p:=uU (show k+1<=n by omega);have MT:=uU mt;have CF:=uU cf;clear A P mt cf;rw[f];go_wp21;rw[uH MT _ _ (show _=unitN by kernel_rfl)];dsimp only[Result.andThen];rw[uH CF,Oper.upon_enter];refine QU.mono ?_;rintro e y ⟨rfl,d,i⟩;have g:=uU i;go_wp21;go_roundg (mu (itU (k+1) x))
   case measure=>have:=uH t;have:=uH q;omega
   case rel=>exact⟨k+1,by go_num,rfl,p,R3,hT _,d,g⟩
  have h1:¬(k:Int)<(n:Int):=by omega
  have z:=uU (show k=n by have:=uH o;omega);clear mt cf;rw[f];go_wp2;go_ret;exact⟨k,rfl,⟨D,o,.inl z⟩,m,c⟩
theorem SOq.wide[qr]{D B:Nat}(h:SOq C B w b x)(a:C<=D):SOq D B w b x:=by grind[SOq,zQ.wide]
theorem b2d[qr]{B:Nat}(h:SOq C B w b x)(d:x.E=0)(a:World)(J:a.heap.size<=B)(I:Ext a w):
  Calls prog 82 #[pP b] w λe w'=>e=.returned (yY 1 b)/\Hid (SOq (C+16000) B w' b (dC x 1 0))/\Ext a w':=by
 have⟨f,u,o,l,q,D,H,m,G,A,v,s,p,g,y,r,t,j,F,n,K,c,h,i,k⟩:=h;refine(a7k h 0 d rfl rfl (by omega) a J I).mono ?_;rintro e w' ⟨rfl,E,z⟩;exact⟨rfl,⟨f,u,o,l,q,D,H,m,G,A,v,s,p,g,y,r,t,j,F,n,K,c,E,inv0 i d,k⟩,z⟩
theorem zQ.alike(h:zQ C x F K)(c:dQ x z)(g:z.E=x.E)(o:z.I=x.I):zQ C z F K where
 ho:=h.ho
 al:=λi d f=>h.al i (c.1▸d) (by rw[<-c.2];exact f)
 nn:=h.nn
 le:=by
  have e:kU z=kU x:=by unfold kU;rw[g,o,c.1]
  rw[e];exact h.le
 k3:=λe=>by
  have k:=h.k3 (g▸e);rw[o];exact⟨k.1,λi d=>⟨(k.2.1 i d).1,by rw[c.2];exact(k.2.1 i d).2⟩,λi d l n j m f=>k.2.2 i d (by rw[<-c.2];exact l) n j (c.1▸m) (by rw[<-c.2];exact f)⟩
 k4:=λe=>by
  have k:=h.k4 (g▸e);exact⟨k.1,λi d=>⟨c.1▸(k.2.1 i d).1,by rw[c.2];exact(k.2.1 i d).2⟩,λi d l n j m f=>k.2.2 i (c.1▸d) (by rw[<-c.2];exact l) n j (c.1▸m) (by rw[<-c.2];exact f)⟩
 k0:=λa b=>h.k0 (g▸a) (g▸b)
theorem SAt.far{z z2:Nat->Option Obj}{B:Nat}{role':Nat->Nat}(h:@SAt ⟨⟨z⟩⟩ B w b x ar kr v4 v8 br cB cO bn pb pa pk kn hd vf F vk K role)(m:w.heap.size<=w'.heap.size)(e:∀q,q<w.heap.size->(role q≠1\/q=bn)->w'.heap[q]?=w.heap[q]?)(l:∀q,q<w.heap.size->(role q≠1\/q=bn)->role' q=role q)(s:∀q o,z2 q=some o->role' q=1/\w'.heap[q]?=some o):@SAt ⟨⟨z2⟩⟩ B w' b x ar kr v4 v8 br cB cO bn pb pa pk kn hd vf F vk K role':=by
 obtain⟨i,j,d,_⟩:=h;letI:Inhabited uL:=⟨⟨z2⟩⟩;refine⟨i.same m (e b i.nb.1 (.inl (by rw[d.b];omega))) (e bn i.lo.2.2.1 (.inr rfl)) (λq a=>e q (i.fr.own.lt q a).2 (.inl (by rw[d.f q a];omega))) (λq a=>e q (i.kp.lt q a).2 (.inl (by rw[d.k q a];omega))),j.same m (λg=>e br (j.nr g).1.1 (.inl (by rw[d.r g];omega))) (λq a=>e (cB q) (j.nc q a).1.1 (.inl (by rw[d.c q a];omega))) (λq a g=>e (pb q) (j.pl q a g).2.1.1 (.inl (by rw[d.p q a g];omega))),⟨?_,?_,λg=>?_,λq a=>?_,λq a=>?_,λq a=>?_,λq a g=>?_⟩,s⟩;rw[l b i.nb.1 (.inl (by rw[d.b];omega))];exact d.b;rw[l bn i.lo.2.2.1 (.inr rfl)];exact d.n;rw[l br (j.nr g).1.1 (.inl (by rw[d.r g];omega))];exact d.r g;rw[l (cB q) (j.nc q a).1.1 (.inl (by rw[d.c q a];omega))];exact d.c q a;rw[l q (i.fr.own.lt q a).2 (.inl (by rw[d.f q a];omega))];exact d.f q a;rw[l q (i.kp.lt q a).2 (.inl (by rw[d.k q a];omega))];exact d.k q a;rw[l (pb q) (j.pl q a g).2.1.1 (.inl (by rw[d.p q a g];omega))];exact d.p q a g
theorem SOq.enter{p:Inhabited uL}{B:Nat}{w0:World}(h:@SOq p C B w b x)(e:Ext w w0):∃p1,Own p w.heap.size w0.heap.size w0 p1/\@SOq p1 C B w0 b x:=by
 have⟨S,E,P,n,t,R,l,L,m,A,N,G,D,Q,r,O,I,H,F,J,K,d,h,i,k⟩:=h;have⟨s,_,_,g⟩:=h;have⟨p1,f⟩:=Own.make p w.heap.size w0.heap.size w0 (λq o a=>a1p (g q o a).2) (hT _);refine⟨p1,f,S,E,P,n,t,R,l,L,m,A,N,G,D,Q,r,O,I,H,F,J,K,λq=>if w.heap.size<=q then 1 else d q,SAt.far (z:=(@default uL p).z) (z2:=(@default uL p1).z) h e.size (λq a _=>e.block q a) (λq a _=>if_neg (by omega)) (λq o a=>?_),i,k.1,by rw[f.z,if_neg (λu=>by have:=s.lo.2.2.1;omega)];exact k.2⟩;rw[f.z]at a;split at a;rename_i c;exact⟨if_pos c.1,a⟩;have⟨y,j⟩:=g q o a;have v:=a1p j;exact⟨by show(if w.heap.size<=q then 1 else d q)=1;rw[if_neg (by omega)];exact y,(e.block q v).trans j⟩
theorem SOq.own{p p1:Inhabited uL}{lo hi:Nat}{c:World}(o:Own p lo hi c p1){B:Nat}(h:@SOq p1 C B w b x):∀q,lo<=q->q<hi->w.heap[q]?=c.heap[q]?:=λq g j=>by
 have⟨N,v,J,n,s,M,l,G,m,t,H,y,u,L,r,I,D,A,F,E,K,a,h,i,k⟩:=h;have⟨_,_,_,e⟩:=h;have⟨f,d⟩:=a2x (w:=c) (q:=q) (by have:=o.h;omega);have:=(e q f (by rw[o.z q,if_pos ⟨g,j⟩];exact d)).2;rw[this,d]
theorem SOq.obj[qr]{B:Nat}(h:SOq C B w b x){q:Nat}{o:Obj}(hz:(default:uL).z q=some o):w.heap[q]?=some o:=by
 have⟨ar,kr,a4,n4,k4,a8,m8,k8,br,cB,cO,bn,pb,pa,pk,kn,hd,vf,F,vk,K,role,h,i,k⟩:=h;exact(h.pr q o hz).2
structure b2f[qr](C B:Nat)(w:World)(b:Nat)(x:Hp)(br kr:Nat):Prop where
 c3:w.cell? ⟨b,3,none⟩=some (.slice (some ⟨br,0,none⟩) 16 kr)
 r:∀i,i<16->yD w br (i*3) (x.r i)
 f:∀j,w.frozen? ⟨br,j,none⟩=false
 lo:B<=br/\br<w.heap.size
 set:∀(W:World)(i:Nat)(y:Wd),Ext w W->i<16->SOq C B (cX W br (i*3) y) b (regTo x i y)
theorem SOq.B[qr]{B:Nat}(h:SOq C B w b x)(s:Snd x):∃br kr,b2f C B w b x br kr:=by
 have⟨M,kr,I,j,o,L,g,E,br,p,G,t,q,J,l,H,z,u,F,D,K,a,h,v,k⟩:=h;have f:=s.r1.B;have c:0<x.B.length:=by omega
 refine⟨br,kr,?_,λi A=>?_,(h.rw.nr c).1.2,⟨(h.rw.nr c).2,(h.rw.nr c).1.1⟩,λW i y e A=>?_⟩;have:=h.sb.bx.2.2.2.1;rw[h.sb.ha c,f]at this;exact this;have:=h.rw.r i (by omega);rw[Hp.r_eq]at this;exact this;have d:=h.ext e;exact⟨M,kr,I,j,o,L,g,E,br,p,G,t,q,J,l,H,z,u,F,D,K,a,d.setr i (by omega) y (cD _ _ _ _) (a2g (d.rw.nr c).1 _ _) (a1m _ _ _ _ _ (d.rw.r i (by omega))) (λm n=>dL _ _ _ _ m n),v.alike (dQ.A rfl) rfl rfl,k⟩
theorem b2f.ext[qr]{B:Nat}(h:b2f C B w b x br kr)(e:Ext w w'):b2f C B w' b x br kr:=
 ⟨e.keep h.c3,λi a=>(h.r i a).ext e,λj=>((cE e).2 br j h.lo.2).trans (h.f j),⟨h.lo.1,kF h.lo.2 e.size⟩,λW i y c a=>h.set W i y (e.trans c) a⟩
def yL(b:Nat)(op:Int)(a p c:Nat)(n:Int)(rv:Value):Obj:=.cells #[.pointer (some ⟨b,0,none⟩),iv op,iv a,iv p,iv c,iv n,rv] 156
structure tQ(w:World)(bd b:Nat)(op:Int)(a p c:Nat)(n:Int)(rv:Value):Prop where
 d0:w.cell? ⟨bd,0,none⟩=some (.pointer (some ⟨b,0,none⟩))
 d1:w.cell? ⟨bd,1,none⟩=some (iv op)
 d2:w.cell? ⟨bd,2,none⟩=some (iv a)
 d3:w.cell? ⟨bd,3,none⟩=some (iv p)
 d4:w.cell? ⟨bd,4,none⟩=some (iv c)
 d5:w.cell? ⟨bd,5,none⟩=some (iv n)
 d6:w.cell? ⟨bd,6,none⟩=some rv
theorem tQ.of(h:w.heap[bd]?=some (yL b op a p c n rv)):tQ w bd b op a p c n rv:=by
 have k:=λj=>cell_of_row w bd j _ _ (0,0) h
 exact⟨k 0,k 1,k 2,k 3,k 4,k 5,k 6⟩
theorem tQ.ext(h:tQ w bd b op a p c n rv)(e:Ext w w'):tQ w' bd b op a p c n rv:=
 ⟨e.keep h.d0,e.keep h.d1,e.keep h.d2,e.keep h.d3,e.keep h.d4,e.keep h.d5,e.keep h.d6⟩
def b5z(cd:Int):Value:=if cd=0 then .nilIface else .iface 146 (.agg #[iv cd])
abbrev zU[qr](C B b:Nat)(x:Hp)(a p c:Nat)(n:Int)(k:Nat)(v:World)(e:Ending)(w':World):Prop:=∃(y:Hp)(cd nm:Int),Hid (e=.returned (.tuple #[iv nm,b5z cd]))/\Hid (DoR x a p c n y cd nm k)/\Hid (SOq (C+64000) B w' b y)/\Ext v w'
theorem a1r[qr]{B:Nat}(h:b2f C B w b x br kr)(d:tQ w bd b op a p c n rv)(s:a<16):
  Calls prog 217 #[pP bd] w λe w'=>e=.returned (pQ br (a*3))/\Ext w w':=by
 have i:=h.c3;have⟨m,o,k,g,j,f,r⟩:=d;have q:(0:Int)<=(a:Int):=by omega
 have l:(a:Int)<16:=by omega
 clear h;go_enter func217,ntmps217;go_wp21;go_quiet (fail);go_wp21;go_ret;exact⟨rfl,Ext.drewN (hO _) _⟩
theorem b9p[qr]{B:Nat}(h:b2f C B w b x br kr)(d:tQ w bd b op a p c n rv)(s:p<16):
  Calls prog 219 #[pP bd] w λe w'=>e=.returned (pQ br (p*3))/\Ext w w':=by
 have i:=h.c3;have⟨m,o,k,g,j,f,r⟩:=d;have q:(0:Int)<=(p:Int):=by omega
 have l:(p:Int)<16:=by omega
 clear h;go_enter func219,ntmps219;go_wp21;go_quiet (fail);go_wp21;go_ret;exact⟨rfl,Ext.drewN (hO _) _⟩
theorem b6c(n:Nat)(h:n<=1048576):wrap64 ((n:Int)+1)=(n:Int)+1:=by unfold wrap64;omega
theorem c2u(f:Pr->Bool)(xs:List Pr)(bx bl g:Nat)(P:World->Prop)(A:Ans2 f xs bx bl g P)(W:Option Addr)(cap:Nat)(w:World)(hp:P w)(hr:kN w g xs)(V:0<xs.length->W=some (aA g 0)/\Nfp g cap w/\xs.length<=cap)(hn:xs.length<=200):
  Calls prog 149 #[.slice W xs.length cap,go2 bx bl] w λe w'=>Hid (e=.returned (.slice W (yX f xs).length cap))/\Hid (kN w' g (yX f xs))/\Hid (uZ (λq=>q=g/\0<xs.length) w w')/\Hid (0<xs.length->Nfp g cap w'):=by
 have X:=uU (c5k f xs bx bl g P A W cap w hp hr (by
  obtain h|h:=mN xs.length;exact .inr h;exact .inl (V h).2.1.1) (λh=>(V h).1) hn)
 have HA:=uU A;have HP:=uU hp;have Z:=uU hr;have HN:=uU V;clear A hp hr V;go_in;go_wp21;refine X.mono ?_;rintro e Q ⟨r,rfl,z,s⟩;obtain⟨rfl,hall⟩|⟨i,hi,rfl,q,hno⟩:=uH z;have E:=uU (b8b f xs hall);have R:=uU (show kN Q g xs/\(0<xs.length->Nfp g cap Q) from⟨λk hk=>(Z.block (s.block g (HN (by omega)).2.1.1)) k hk,λh=>(HN h).2.1.ext s⟩);clear z hall X;go_wp21;go_ret;exact⟨by show _=_;rw[uH E];rfl,by rw[uH E];exact R.1,uZ.of_ext s,R.2⟩;obtain⟨rfl,b,ae⟩:=uH HN (by omega);have D0:=uU (b0r.V hi q hno);have P1:=uU (HA.ext _ _ HP s);have R1:=uU (show kN Q g xs from Z.block (s.block g b.1));have N1:=uU (b.ext s);have aa:((i:Int) == -1)=false:=by simp
 have wi:wrap64 ((i:Int)+1)=(i:Int)+1:=b6c i (by omega);have O1:=uU (show uZ (λq=>q=g) w Q from uZ.of_ext s);have h0:0<xs.length:=by omega
 clear q hno X z b Z s;go_wp21;go_loopw [5,6] (λsi sj wr=>∃(i j:Nat)(M:List Pr),si=iv i/\sj=iv j/\Hid (b0r f xs M i j)/\Hid (kN wr g M)/\Hid (Nfp g cap wr)/\Hid (uZ (λq=>q=g) w wr)/\Hid (P wr)) (λ_ sj _=>xs.length-(intOf sj).toNat)
 case atStart=>exact⟨i,i+1,xs,rfl,by go_num,D0,R1,N1,O1,P1⟩
 case round=>
  clear R1 D0 N1 O1 P1 wi aa hi;obtain⟨i,j,M,rfl,rfl,p,c,b,G,F⟩:=hrel;have H:=p.lt;have ac:=p.le;have ab:=p.len;have Y:g<wr.heap.size:=b.1;by_cases d:j<xs.length
  ·obtain⟨hm,em⟩:=p.at d;obtain⟨T,I,L,N,J,U⟩:=uH c j hm;rw[em]at T I L N J U;have K:=uU (p.no d);have o:=uU (p.yes d);have C:=uU (HA.call (wr.alloc (.cells #[iv xs[j].key.k,iv xs[j].key.n,iv xs[j].key.a,iv xs[j].val.k,iv xs[j].val.n,iv xs[j].val.a] 53)) (HA.ext _ _ F (eAl wr _)) j d);obtain⟨y,hy⟩:=obE (xs[j]);rw[<-hy]at T I L N J U K o C;clear hy em;have j0:=i0N j;have j1:(j:Int)<(xs.length:Int):=by omega
   have af:=i0N i;have i1:(i:Int)<(xs.length:Int):=by omega
   have xa:=(hO wr).alloc (oPr y);have wj:wrap64 ((j:Int)+1)=(j:Int)+1:=b6c j (by omega);have wi:wrap64 ((i:Int)+1)=(i:Int)+1:=b6c i (by omega);have B:i<M.length:=by rw[ab];exact Nat.lt_trans H d
   clear ac H;go_wp21;refine C.mono ?_;rintro e l ⟨rfl,x⟩;have O:=xa.trans x;have R2:=uU (c.block (O.block g Y));have m:=uU (b.ext O);have O2:=uU (G.trans (uZ.of_ext O));have P2:=uU (HA.ext _ _ F O);cases t:f y
   ·have D:=uU (o t);have b0:l.cell? (aA wr.heap.size 0)=some (iv y.key.k):=x.keep (by simp[go_sem]);have b1:l.cell? (aA wr.heap.size 1)=some (iv y.key.n):=x.keep (by simp[go_sem]);have b2:l.cell? (aA wr.heap.size 2)=some (iv y.key.a):=x.keep (by simp[go_sem]);have b3:l.cell? (aA wr.heap.size 3)=some (iv y.val.k):=x.keep (by simp[go_sem]);have b4:l.cell? (aA wr.heap.size 4)=some (iv y.val.n):=x.keep (by simp[go_sem]);have b5:l.cell? (aA wr.heap.size 5)=some (iv y.val.a):=x.keep (by simp[go_sem]);obtain⟨c0,c1,c2,c3,c4,c5⟩:=uH R2 i B;have f0:=m.2 (i*6);have f1:=m.2 (i*6+1);have f2:=m.2 (i*6+2);have f3:=m.2 (i*6+3);have f4:=m.2 (i*6+4);have f5:=m.2 (i*6+5);have R:=uU (show kN (l.setCells g (i*6) [iv y.key.k,iv y.key.n,iv y.key.a,iv y.val.k,iv y.val.n,iv y.val.a]) g (M.set i y)/\Nfp g cap (l.setCells g (i*6) [iv y.key.k,iv y.key.n,iv y.key.a,iv y.val.k,iv y.val.n,iv y.val.a])/\uZ (λq=>q=g) w (l.setCells g (i*6) [iv y.key.k,iv y.key.n,iv y.key.a,iv y.val.k,iv y.val.n,iv y.val.a])/\P (l.setCells g (i*6) [iv y.key.k,iv y.key.n,iv y.key.a,iv y.val.k,iv y.val.n,iv y.val.a]) from
     ⟨R2.put i B y,m.put,a1d (S:=λq=>q=g) rfl O2,HA.put h0 _ _ P2 (a1d (S:=λq=>q=g) rfl (uZ.refl _ l))⟩)
    clear K o T I L N J U R2 m O2 P2;go_wp21;go_roundw
    case rel=>exact⟨i+1,j+1,M.set i y,by go_num,by go_num,D,R.1,R.2.1,R.2.2.1,R.2.2.2⟩
    simp[intOf];omega
   have D:=uU (K t);clear K o T I L N J U;go_wp21;go_roundw
   case rel=>exact⟨i,j+1,M,rfl,by go_num,D,R2,m,O2,P2⟩
   simp[intOf];omega
  have je:j=xs.length:=by omega
  subst je;obtain⟨dt,dl⟩:=p.done;have ag:∀ty,(Builtin.clear_ #[49] ty #[sO g (i*6) (xs.length-i) (cap-i)]).run prog wr=.ok (.tuple #[]) (wr.setCells g (i*6) (Builtin.zeroCells #[iv 0,iv 0,iv 0,iv 0,iv 0,iv 0] (xs.length-i)).toList):=λty=>c2t wr ty g (i*6) _ _ (by omega) (λk hk=>by
   obtain⟨u,hu⟩:=(c (i+k / 6) (by omega)).some (k % 6) (mT _ (by omega));rw[show i*6+k=(i+k / 6)*6+k % 6 by omega,hu];rfl) (λk _=>b.2 _)
  have v:=uU (show kN (wr.setCells g (i*6) (Builtin.zeroCells #[iv 0,iv 0,iv 0,iv 0,iv 0,iv 0] (xs.length-i)).toList) g (yX f xs)/\uZ (λq=>q=g/\0<xs.length) w (wr.setCells g (i*6) (Builtin.zeroCells #[iv 0,iv 0,iv 0,iv 0,iv 0,iv 0] (xs.length-i)).toList)/\Nfp g cap (wr.setCells g (i*6) (Builtin.zeroCells #[iv 0,iv 0,iv 0,iv 0,iv 0,iv 0] (xs.length-i)).toList) from
   ⟨by rw[<-dt];exact c.cut i _,(a1d (S:=λq=>q=g) rfl G).mono (λq e=>⟨e,h0⟩),b.put⟩)
  have DL:=uU dl;have k0:=i0N i;have k1:(i:Int)<=(xs.length:Int):=by omega
  have k2:(i:Int)<=(cap:Int):=by omega
  clear dt dl p;go_wp21;go_ret;exact⟨by show _=_;rw[<-uH DL];rfl,v.1,v.2.1,λ_=>v.2.2⟩
def acB(cB cO:Nat->Nat)(i:Nat):Option Addr:=some ⟨cB i,cO i,none⟩
theorem SAt.fw[qr]{B:Nat}(h:SAt B w b z ar kr v4 v8 br cB cO bn pb pa pk kn hd vf F vk K role)(g:z.A.length=x.A.length)(f:∀q,(z.c q).st=(x.c q).st/\(z.c q).to=(x.c q).to):c1v w b x (acB cB cO) (some (aA bn 0)) kn:=
 ⟨g▸h.sb.n13,λi a=>by
  rw[<-g]at a;have⟨e,_,_,_,_,_,d⟩:=h.rw.s i a;rw[(f i).1]at e;rw[(f i).2]at d;exact⟨bn,0,cB i,cO i,rfl,rfl,by rw[kO];exact(h.sb.nd i a).2,e,d⟩⟩
theorem SAt.vn[qr]{B:Nat}(h:SAt B w b z ar kr v4 v8 br cB cO bn pb pa pk kn hd vf F vk K role)(q:z.B.length<=100)(o:∀i,i<z.A.length->(z.c i).F.length<=200):VNt w b z ar kr (acB cB cO) (some (aA bn 0)) kn:=
 ⟨⟨h.sb.bx.2.2.2.1,by omega,λi a=>⟨br,0,h.sb.ha (by omega),by rw[kO];exact h.rw.r i a⟩,λi a=>by
  have⟨j,e,l,f,n,m,g⟩:=h.rw.s i a;refine⟨cB i,cO i,rfl,_,j,e,l,f,n,m,g,h.rw.p7 i a,pa i,pk i,rfl,by have:=o i a;omega,λk d=>?_⟩;refine⟨pb i,0,(h.rw.pl i a (h.rw.pw a (by omega))).1,?_⟩;rw[kO,Cl.p_eq _ _ d];exact h.rw.p i a k d⟩,h.sb.n13,λi a=>⟨bn,0,cB i,cO i,rfl,rfl,by rw[kO];exact(h.sb.nd i a).1,by rw[kO];exact(h.sb.nd i a).2⟩⟩
theorem SAt.stayed[qr]{B:Nat}(h:SAt B w b z ar kr v4 v8 br cB cO bn pb pa pk kn hd vf F vk K role)(i:Nat)(G:i<z.A.length)(L:List Pr)(hL:L.length<=(z.c i).F.length)(o:uZ (λq=>q=cB i\/(q=pb i/\0<(z.c i).F.length)) w w')(S:Nf1 (cB i) w')(T:0<(z.c i).F.length->Nfp (pb i) (pk i) w')(c7:w'.cell? (aA (cB i) (cO i+7))=some (.slice (pa i) L.length (pk i)))(R:∀j,j≠cO i+7->w'.cell? (aA (cB i) j)=w.cell? (aA (cB i) j))(hp:kN w' (pb i) L):
  SAt B w' b { z with A:=z.A.set i { z.c i with F:=L } } ar kr v4 v8 br cB cO bn pb pa pk kn hd vf F vk K role:=by
 have u:∀q,q<w.heap.size->role q≠3->role q≠6+i->w'.heap[q]?=w.heap[q]?:=λq g E Q=>o.block q g (λe=>by
  obtain e|⟨e,v⟩:=e;exact E (e▸h.sp.c i G);exact Q (e▸h.sp.p i G (h.rw.pw G v)))
 have t:({ z with A:=z.A.set i { z.c i with F:=L } }:Hp).A.length=z.A.length:=by simp
 have W:=Hp.c_set z i { z.c i with F:=L } G;have x:∀q,q≠i->(({ z with A:=z.A.set i { z.c i with F:=L } }:Hp).c q)=z.c q:=λq e=>by rw[W q,if_neg e]
 have D:(({ z with A:=z.A.set i { z.c i with F:=L } }:Hp).c i)={ z.c i with F:=L }:=by rw[W i,if_pos rfl]
 have I:∀q,(({ z with A:=z.A.set i { z.c i with F:=L } }:Hp).c q).F.length<=(z.c q).F.length:=λq=>by
  by_cases e:q=i;rw[e,D];exact hL;rw[x q e];exact hT _
 have V:∀q,q<z.A.length->q≠i->0<pk q->w'.heap[pb q]?=w.heap[pb q]?:=λq g aa t=>u (pb q) (h.rw.pl q g t).2.1.1 (by rw[h.sp.p q g t];omega) (by rw[h.sp.p q g t];omega)
 have l:=h.sb.same o.size (u b h.sb.nb.1 (by rw[h.sp.b];omega) (by rw[h.sp.b];omega)) (u bn h.sb.lo.2.2.1 (by rw[h.sp.n];omega) (by rw[h.sp.n];omega)) (λq g=>u q (h.sb.fr.own.lt q g).2 (by rw[h.sp.f q g];omega) (by rw[h.sp.f q g];omega)) (λq g=>u q (h.sb.kp.lt q g).2 (by rw[h.sp.k q g];omega) (by rw[h.sp.k q g];omega));have Z:∀q,q<z.A.length->cB q≠cB i->w'.heap[cB q]?=w.heap[cB q]?:=λq g e=>o.block (cB q) (h.rw.nc q g).1.1 (λv=>by
  obtain v|⟨v,e3⟩:=v;exact e v;exact(h.rw.pl i G (h.rw.pw G e3)).2.2.1.2 q g v.symm)
 have ck:∀q,q<z.A.length->q≠i->∀k,k<8->w'.cell? (aA (cB q) (cO q+k))=w.cell? (aA (cB q) (cO q+k)):=λq g e k M=>by
  by_cases v:cB q=cB i;rw[v];obtain d|d|d:=h.rw.dc q i g G e
  ·exact(d v).elim
  exact R _ (by omega);exact R _ (by omega);exact cOb (cB q) _ (Z q g v)
 have cn:∀q,q<z.A.length->Nf1 (cB q) w':=λq g=>by
  by_cases v:cB q=cB i;rw[v];exact S;exact uY (h.rw.nc q g).1 (Z q g v) o.size
 have fr:0<z.B.length->w'.heap[br]?=w.heap[br]?:=λE=>u br (h.rw.nr E).1.1 (by rw[h.sp.r E];omega) (by rw[h.sp.r E];omega)
 refine⟨⟨l.bx,l.ha,t▸l.n13,λk M=>l.nd k (by rw[t]at M;exact M),l.fr,l.rg,l.k0,l.kp,l.nb,l.lo⟩,⟨λj A=>?_,λq g=>?_,λq g=>?_,λq g j A=>?_,λq g C=>?_,λE=>⟨uY (h.rw.nr E).1 (fr E) o.size,(h.rw.nr E).2⟩,λq g=>⟨cn q (by rw[t]at g;exact g),(h.rw.nc q (by rw[t]at g;exact g)).2⟩,λq g=>h.rw.d q (by rw[t]at g;exact g),λq P g y O H h2=>?_,λq P g y x=>h.rw.dc q P (by rw[t]at g;exact g) (by rw[t]at y;exact y) x,λq g=>kA (I q) (h.rw.kp q (by rw[t]at g;exact g))⟩,⟨h.sp.b,h.sp.n,h.sp.r,λq g=>h.sp.c q (by rw[t]at g;exact g),h.sp.f,h.sp.k,λq g C=>?_⟩,h.pr.of (λq g H=>u q g (by rw[H];omega) (by rw[H];omega)) (λ_ _ h=>h)⟩;exact(h.rw.r j A).of λm _=>cOb br _ (fr (by have:j<z.B.length:=A;omega))
 rw[t]at g;by_cases e:q=i
 ·subst e;rw[D];exact(h.rw.s q g).of λm hm=>R _ (by omega)
 rw[x q e];exact(h.rw.s q g).of λm hm=>ck q g e m (by omega)
 rw[t]at g;by_cases e:q=i
 ·subst e;rw[D];exact c7
 rw[x q e,ck q g e 7 (by omega)];exact h.rw.p7 q g;rw[t]at g;by_cases e:q=i
 ·subst e;rw[D]at A ⊢;have:=hp j A;rw[Cl.p_eq { z.c q with F:=L } j A]at this;exact this
 rw[x q e]at A ⊢;exact(h.rw.p q g j A).of λm _=>cOb (pb q) _ (V q g e (h.rw.pw g (by omega)))
 rw[t]at g;have⟨U,J,N,Y⟩:=h.rw.pl q g C;have a5:pb q≠br/\∀j,j<({ z with A:=z.A.set i { z.c i with F:=L } }:Hp).A.length->pb q≠cB j:=⟨N.1,λj A=>N.2 j (by rw[t]at A;exact A)⟩;by_cases e:q=i
 ·subst e;refine⟨U,?_,a5,Y⟩;obtain X|X:=mN (z.c q).F.length
  ·exact eN J (o.block (pb q) J.1 (λe=>by
    obtain e|e:=e;exact N.2 q g e;omega)) o.size
  exact T X
 exact⟨U,eN J (V q g e C) o.size,a5,Y⟩;rw[t]at g y;exact h.rw.dp q P g y O H h2;rw[t]at g;exact h.sp.p q g C
structure Bxs(w:World)(b r bs bh bx bl bn i:Nat)(Mt:List Nat):Prop where
 s:w.cell? ⟨bs,0,none⟩=some (.pointer (some ⟨b,0,none⟩))
 h:w.cell? ⟨bh,0,none⟩=some (.map (some r))
 n:w.cell? ⟨bx,0,none⟩=some (ndp bn i)
 l:w.cell? ⟨bl,0,none⟩=some (.func (.func 143) #[] #[.pointer (some ⟨bs,0,none⟩),.pointer (some ⟨bh,0,none⟩)])
 m:tV w r bn (Mt.map (λi=>i*2))
 rl:r<w.heap.size
theorem Bxs.blocks(h:Bxs w b r bs bh bx bl bn i Mt)(c:w.heap.size<=w'.heap.size)(e:∀q,q<w.heap.size->q=bs\/q=bh\/q=bx\/q=bl\/q=r->w'.heap[q]?=w.heap[q]?):Bxs w' b r bs bh bx bl bn i Mt:=
 ⟨(cOb bs 0 (e bs (uQ h.s) (by simp))).trans h.s,(cOb bh 0 (e bh (uQ h.h) (by simp))).trans h.h,(cOb bx 0 (e bx (uQ h.n) (by simp))).trans h.n,(cOb bl 0 (e bl (uQ h.l) (by simp))).trans h.l,h.m.block (e r h.rl (by simp)),kF h.rl c⟩
theorem Bxs.ext(h:Bxs w b r bs bh bx bl bn i Mt)(e:Ext w w'):Bxs w' b r bs bh bx bl bn i Mt:=h.blocks e.size λq a _=>e.block q a
theorem SAt.goat[qr]{B:Nat}(h:SAt B w b z ar kr v4 v8 br cB cO bn pb pa pk kn hd vf F vk K role)(k:Bxs w b r bs bh bx bl bn i Mt)(e:z.A.length=x.A.length)(d:∀q,(z.c q).st=(x.c q).st/\(z.c q).to=(x.c q).to)(a:i<z.A.length)(f:(z.c i).T=(x.c i).T):b6y w b r bs bh bx bl x (acB cB cO) bn kn Mt i:=
 ⟨⟨k.s,k.h,h.fw e d,k.m,k.rl⟩,k.n,k.l,cB i,cO i,rfl,(h.sb.nd i a).2,f▸(h.rw.s i a).2.2.1⟩
theorem b6y.only{S:Nat->Prop}(h:b6y w b r bs bh bx bl x (acB cB cO) bn kn Mt i)(v:i<x.A.length)(o:uZ S w w')(a:∀q,q=bs\/q=bh\/q=bx\/q=bl\/q=r\/q=b\/q=bn->¬S q)(g:∀j,j<x.A.length->¬S (cB j)):b6y w' b r bs bh bx bl x (acB cB cO) bn kn Mt i:=by
 refine⟨⟨o.keep (a bs (by simp)) h.lo.s,o.keep (a bh (by simp)) h.lo.h,⟨o.keep (a b (by simp)) h.lo.f.n13,λj e=>?_⟩,h.lo.m.block (o.block r h.lo.rl (a r (by simp))),kF h.lo.rl o.size⟩,o.keep (a bx (by simp)) h.n,o.keep (a bl (by simp)) h.l,?_⟩;have⟨y,z,t,k,u,d,p,q,r⟩:=h.lo.f.N j e;cases u;cases d;exact⟨bn,0,cB j,_,rfl,rfl,o.keep (a bn (by simp)) p,o.keep (g j e) q,o.keep (g j e) r⟩;have⟨t,k,d,p,q⟩:=h.c;cases d;exact⟨cB i,_,rfl,o.keep (a bn (by simp)) p,o.keep (g i v) q⟩
def a6g(bn:Nat)(x:Hp):Value:=if uV x = -1 then .pointer none else ndp bn (uV x).toNat
theorem b0s[qr]{B:Nat}{w:World}{b:Nat}{x:Hp}{ar:Option Addr}{kr:Nat}{v4 v8:Value}{br bn:Nat}{cB cO:Nat->Nat}{pb:Nat->Nat}{pa:Nat->Option Addr}{pk:Nat->Nat}{kn hd:Nat}{vf:Value}{F:List Int}{vk:Value}{K:List Nat}{role:Nat->Nat}(h:SAt B w b x ar kr v4 v8 br cB cO bn pb pa pk kn hd vf F vk K role)(y:0<=x.I/\x.I<=x.A.length)(q:∀g,g∈x.D->0<=g/\g<x.A.length):
  Calls prog 148 #[pP b] w λe w'=>Hid (e=.returned (a6g bn x))/\Ext w w':=by
 have v:=h.sb.bx.2.2.2.2.2.1;have f:=h.sb.bx.2.2.2.2.2.2.1;have a:=h.sb.n13;cases m:(x.E == 2)
 ·cases r:(x.E == 5)
  ·have E:a6g bn x=.pointer none:=by
    have d:¬x.E=2:=by simpa using m
    have k:¬x.E=5:=by simpa using r
    have:uV x = -1:=by unfold uV;rw[if_neg (λh=>d h.1),if_neg (λh=>k h.1)]
    unfold a6g;rw[if_pos this]
   go_in;go_wp21;go_ret;exact⟨by show _=_;rw[uH E];rfl,hO _⟩
  have d:¬x.E=2:=by simpa using m
  have k:x.E=5:=by simpa using r
  cases n:(x.I == (x.A.length:Int))
  focus
   have o:¬x.I=(x.A.length:Int):=by simpa using n
   have⟨i,s⟩:∃i:Nat,x.I=(i:Int):=⟨x.I.toNat,by omega⟩;have E:a6g bn x=ndp bn i:=by
    have:uV x=(i:Int):=by unfold uV;rw[if_neg (λh=>d h.1),if_pos ⟨k,by omega⟩,s]
    unfold a6g;rw[this,if_neg (by omega)];simp
   have Q:=λW (e:Ext w W)=>a0w b x.A.length kn bn i W (e.keep (s ▸ f)) (e.keep a) (by omega)
  rotate_left
  focus
   have u:x.I=(x.A.length:Int):=by simpa using n
   have E:a6g bn x=.pointer none:=by
    have:uV x = -1:=by unfold uV;rw[if_neg (λh=>d h.1),if_neg (λh=>by omega)]
    unfold a6g;rw[if_pos this]
   have Q:=uU (λW (e:Ext w W)=>a4j x.I b x.A.length kn (some (aA bn 0)) W (e.keep f) (e.keep a) n)
  all_goals
   go_in;go_wp21;refine(Q _ (hO _)).mono ?_;rintro e p ⟨rfl,j⟩;go_wp21;go_ret;exact⟨by show _=_;rw[uH E];rfl,j⟩
 have d:x.E=2:=by simpa using m
 have l:=uU h.sb.rg;cases c:x.D with
 | nil=>
  have E:a6g bn x=.pointer none:=by
   have:uV x = -1:=by unfold uV;rw[if_neg (λh=>by simp[c]at h),if_neg (λh=>by omega)]
   unfold a6g;rw[if_pos this]
  rw[c]at l;go_in;go_wp21;refine(a7n b bn hd _ l).mono ?_;rintro e p ⟨rfl,j⟩;go_wp21;go_ret;exact⟨by show _=_;rw[uH E];rfl,j⟩
 | cons g G=>
  have t:=q g (by rw[c];simp);have E:=uU (show a6g bn x=ndp bn g.toNat by
   have:uV x=g:=by unfold uV;rw[if_pos ⟨d,by simp[c]⟩,c];rfl
   unfold a6g;rw[this,if_neg (by omega)])
  rw[c]at l;go_in;go_wp21;refine(a4k b bn hd g G _ l).mono ?_;rintro e p ⟨rfl,j⟩;go_wp21;go_ret;exact⟨by show _=_;rw[uH E];rfl,j⟩
theorem d4d(bn o:Nat)(w:World):(binOp .eql 97 (pQ bn o) (.pointer none)).run prog w=.ok (.bool false) w:=by kernel_rfl
theorem b6d{x:Hp}(c:0<=x.I/\x.I<=x.A.length)(b:∀g,g∈x.D->0<=g/\g<x.A.length):uV x = -1\/0<=uV x:=by
 unfold uV;split;rename_i h;cases a:x.D with
 | nil=>simp[a]at h
 | cons g G=>right;exact(b g (by rw[a];simp)).1
 split
 ·omega
 exact .inl rfl
theorem d4e(bn i:Nat)(a:uV x = -1\/0<=uV x)(w:World):(binOp .eql 97 (ndp bn i) (a6g bn x)).run prog w=.ok (.bool (decide (uV x=(i:Int)))) w:=by
 unfold a6g;by_cases h:uV x = -1;rw[if_pos h,d4d,decide_eq_false (by omega)];rw[if_neg h];by_cases e:uV x=(i:Int)
 ·have:(uV x).toNat=i:=by omega
  rw[this,c6t,decide_eq_true e]
 have:¬i*2=(uV x).toNat*2:=by omega
 rw[d2q _ _ _ _ this,decide_eq_false e]
structure b6f[qr](C B:Nat)(w:World)(b:Nat)(x:Hp)(i bn kn cb co:Nat)(ap:Option Addr)(kp:Nat):Prop where
 n13:w.cell? ⟨b,13,none⟩=some (.slice (some ⟨bn,0,none⟩) x.A.length kn)
 m0:w.cell? ⟨bn,i*2,none⟩=some (iv i)
 m1:w.cell? ⟨bn,i*2+1,none⟩=some (.pointer (some ⟨cb,co,none⟩))
 s:S7 w cb co (x.c i)
 p7:w.cell? ⟨cb,co+7,none⟩=some (.slice ap (x.c i).F.length kp)
 f:∀j,w.frozen? ⟨cb,j,none⟩=false
 lo:B<=cb/\cb<w.heap.size
 set2:∀(W:World)(u:Int),Ext w W->SOq C B (W.setCell ⟨cb,co+2,none⟩ (iv u)) b (hD x i (b5c (x.c i) u))
 set3:∀(W:World)(u:Int),Ext w W->SOq C B (W.setCell ⟨cb,co+3,none⟩ (iv u)) b (hD x i (qE (x.c i) u))
theorem SOq.cel[qr]{B:Nat}(h:SOq C B w b x)(i:Nat)(a:i<x.A.length):∃bn kn cb co ap kp,b6f C B w b x i bn kn cb co ap kp:=by
 obtain⟨U,N,g,J,L,T,H,R,I,f,r,bn,M,E,A,kn,P,O,F,Q,K,z,h,v,k⟩:=h;have sm:∀c:Cl,c.st=(x.c i).st->dQ x (hD x i c):=λc D=>dQ.set x i c D rfl
 refine⟨bn,kn,f i,r i,E i,A i,h.sb.n13,(h.sb.nd i a).1,(h.sb.nd i a).2,h.rw.s i a,h.rw.p7 i a,(h.rw.nc i a).1.2,⟨(h.rw.nc i a).2,(h.rw.nc i a).1.1⟩,λW u e=>?_,λW u e=>?_⟩;focus
  have d:=h.ext e;obtain⟨t,l,n,o,g,y,m⟩:=d.rw.s i a;refine⟨_,_,_,_,_,_,_,_,_,_,_,_,_,_,_,_,_,_,_,_,_,_,d.setc a rfl (uZ.setCell (S:=λq=>q=f i) (uZ.refl _ W) (p:=(aA (f i) (r i+2))) rfl _) ⟨?_,?_,kM _ _ _ n,?_,?_,?_,?_⟩ (λj G=>uC _ (.inr (by omega))) ((d.rw.nc i a).1.set _ _),v.alike (sm _ rfl) rfl rfl,k⟩;all_goals
   rw[uC _ (.inr (by omega))];assumption
 rotate_left
 focus
  have d:=h.ext e;obtain⟨t,l,n,o,g,y,m⟩:=d.rw.s i a;refine⟨_,_,_,_,_,_,_,_,_,_,_,_,_,_,_,_,_,_,_,_,_,_,d.setc a rfl (uZ.setCell (S:=λq=>q=f i) (uZ.refl _ W) (p:=(aA (f i) (r i+3))) rfl _) ⟨?_,?_,?_,kM _ _ _ o,?_,?_,?_⟩ (λj G=>uC _ (.inr (by omega))) ((d.rw.nc i a).1.set _ _),v.alike (sm _ rfl) rfl rfl,k⟩;all_goals
   rw[uC _ (.inr (by omega))];assumption
 all_goals
  all_goals
   rw[uC _ (.inr (by omega))];assumption
theorem b6f.ext[qr]{B:Nat}(h:b6f C B w b x i bn kn cb co ap kp)(e:Ext w w'):b6f C B w' b x i bn kn cb co ap kp:=
 ⟨e.keep h.n13,e.keep h.m0,e.keep h.m1,⟨e.keep h.s.1,e.keep h.s.2.1,e.keep h.s.2.2.1,e.keep h.s.2.2.2.1,e.keep h.s.2.2.2.2.1,e.keep h.s.2.2.2.2.2.1,e.keep h.s.2.2.2.2.2.2⟩,e.keep h.p7,λj=>((cE e).2 cb j h.lo.2).trans (h.f j),⟨h.lo.1,kF h.lo.2 e.size⟩,λW u a=>h.set2 W u (e.trans a),λW u a=>h.set3 W u (e.trans a)⟩
theorem a5b{B:Nat}[qr](h:b2f C B w b x br kr)(d:tQ w bd b op a p c n rv)(m:f<16)(i:(x.r f).k≠2):
  Calls prog 223 #[pP bd,pQ br (f*3)] w λe w'=>e=.returned (.tuple #[.pointer none,.iface 146 (.agg #[iv 2])])/\Ext w w':=by
 obtain⟨z,t,D⟩:=h.r f m;obtain⟨y,A,u,q,s,o,E⟩:=d;have l:=uU (λW=>a3j (x.r f) b W (by simpa using i));clear h i;go_in;go_wp21;go_region_with (go_at_call 202;refine(l _).mono ?_;rintro e v ⟨rfl,g⟩;have j:=uU (kI (eDr w) g);clear g);all_goals
  go_wp21;go_ret2;exact⟨rfl,j⟩
theorem a2b{B:Nat}[qr](h:b2f C B w b x br kr)(o:b6f C B w b x i bn kn cb co ap kp)(d:tQ w bd b op a p c n rv)(u:f<16)(m:(x.r f).k=2)(q:(x.r f).a=(i:Int))(v:i<x.A.length):
  Calls prog 223 #[pP bd,pQ br (f*3)] w λe w'=>e=.returned (.tuple #[ndp bn i,.nilIface])/\Ext w w':=by
 obtain⟨H,D,t⟩:=h.r f u;obtain⟨G,I,E,z,A,y,J⟩:=d;rw[q]at t;have g:=o.n13;have l:=uU (λW(xW:Ext w W)=>a1f ⟨(x.r f).k,(x.r f).n,(i:Int)⟩ b x.A.length bn 0 kn i W (by simpa using m) (xW.keep g) v);simp only[Nat.zero_add]at l;clear h m q o;go_in;go_wp21;go_region_with (go_at_call 202;refine(l _ (eDr w)).mono ?_;rintro e F ⟨rfl,j⟩;have s:=uU (kI (eDr w) j);clear j);all_goals
  go_wp21;go_ret2;exact⟨rfl,s⟩
