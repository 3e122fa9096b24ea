import Derived.Test.YtddkhnclmeikfaaGreatImpJ
import Derived.Test.YtddkhnclmeikfaaGreatEc0
import Derived.Test.YtddkhnclmeikfaaGreatPq
import Derived.Test.YtddkhnclmeikfaaGreatPw
import Derived.Test.YtddkhnclmeikfaaGreatTd
set_option maxRecDepth 100000
set_option maxHeartbeats 1000000
namespace Go.Proofs.YtddkhnclmeikfaaGreat
open Go.RowKit Tryz
attribute [local go_sem ↓] Go.wp_at_zero Go.wp_at_succ
variable{x y:Hp}{w W W' v:World}{n op a b c cd nm:Int}{g k br kr:Nat}
structure GReg[Inhabited uQ](B:Nat)(w:World)(g:Nat)(x:Hp)(br kr:Nat):Prop where
 c3:w.cell? ⟨g,3,none⟩=some (.slice (some ⟨br,0,none⟩) 16 kr)
 r:∀i,i<16->yU w br (i*3) (x.r i)
 f:∀j,w.frozen? ⟨br,j,none⟩=false
 lo:B<=br/\br<w.heap.size/\br≠g
 set:∀(W:World) (i:Nat) (y:Wd),Ext w W->i<16->GOk B (dZ W br (i*3) y) g (regTo x i y)
theorem GOk.B[Inhabited uQ]{B:Nat}(h:GOk B w g x)(d:x.B.length=16):∃br kr,GReg B w g x br kr:=by
 obtain⟨f,kr,u,p,k,br,n,o,j,s,b,h⟩:=h;have a:0<x.B.length:=by omega
 refine⟨br,kr,?_,λi q=>?_,(h.rw.nr a).1.2,⟨(h.rw.nr a).2,(h.rw.nr a).1.1,λe=>?_⟩,λW i y e q=>?_⟩
 ·have:=h.bx.2.2.2.1;rw[h.ha a,d] at this;exact this
 ·have:=h.rw.r i (by omega);rw[Hp.r_eq] at this;exact this
 ·have t:=h.sp.r a;have v:=h.sp.g;rw[e] at t;omega
 ·have c:=h.ext e;exact⟨f,kr,u,p,k,br,n,o,j,s,b,c.setr i (by omega) y (a0d _ _ _ _) (b5v (c.rw.nr a).1 _ _) (a7q _ _ _ _ _ (c.rw.r i (by omega))) (λm l=>a0z _ _ _ _ m l)⟩
theorem GReg.ext[Inhabited uQ]{B:Nat}{w':World}(h:GReg B w g x br kr)(e:Ext w w'):GReg B w' g x br kr:=
 ⟨e.keep h.c3,λi a=>(h.r i a).ext e,λj=>((uK e).2 br j h.lo.2.1).trans (h.f j),⟨h.lo.1,Nat.lt_of_lt_of_le h.lo.2.1 e.size,h.lo.2.2⟩,λW i y b a=>h.set W i y (e.trans b) a⟩
abbrev doW(w:World)(op a b c n:Int):World:=(w.alloc (.cells #[iv op,iv a,iv b,iv c,iv n] 39)).alloc (.cells #[iv 0,iv 0] 41)
structure tL(w W:World)(op a b c n:Int):Prop where
 a0:W.cell? ⟨w.heap.size,0,none⟩=some (iv op)
 a1:W.cell? ⟨w.heap.size,1,none⟩=some (iv a)
 a2:W.cell? ⟨w.heap.size,2,none⟩=some (iv b)
 a3:W.cell? ⟨w.heap.size,3,none⟩=some (iv c)
 a4:W.cell? ⟨w.heap.size,4,none⟩=some (iv n)
 r0:W.cell? ⟨w.heap.size+1,0,none⟩=some (iv 0)
 r1:W.cell? ⟨w.heap.size+1,1,none⟩=some (iv 0)
 rf:∀j,W.frozen? ⟨w.heap.size+1,j,none⟩=false
theorem tL.new(w:World)(op a b c n:Int):tL w (doW w op a b c n) op a b c n:=
 ⟨by simp [go_sem],by simp [go_sem],by simp [go_sem],by simp [go_sem],by simp [go_sem],by simp [go_sem],by simp [go_sem],λj=>by simp [go_sem]⟩
theorem tL.of(h:tL w W op a b c n)(e:∀q,w.heap.size<=q->q<w.heap.size+2->W'.heap[q]?=W.heap[q]?):tL w W' op a b c n:=by
 have d:=λj=>World.cell?_of_block (a:=(aA w.heap.size j)) (e w.heap.size (Nat.le_refl _) (by omega))
 have f:=λj=>World.cell?_of_block (a:=(aA (w.heap.size+1) j)) (e (w.heap.size+1) (by omega) (by omega))
 exact⟨(d 0).trans h.a0,(d 1).trans h.a1,(d 2).trans h.a2,(d 3).trans h.a3,(d 4).trans h.a4,(f 0).trans h.r0,(f 1).trans h.r1,λj=>(World.frozen?_of_block (a:=(aA (w.heap.size+1) j)) (e (w.heap.size+1) (by omega) (by omega))).trans (h.rf j)⟩
theorem tL.ext(h:tL w W op a b c n)(e:Ext W W'):tL w W' op a b c n:=by
 have g:=uL h.a0;have d:=uL h.r0
 exact h.of λq i f=>e.block q (by
  have d:w.heap.size+1<W.heap.size:=d;omega)
theorem a7t(w:World)(op a b c n:Int):(doW w op a b c n).heap.size=w.heap.size+2:=by simp [doW]
theorem GOk.boxes{p p1:Inhabited uQ}{B:Nat}(o:Own p w.heap.size (doW w op a b c n).heap.size (doW w op a b c n) p1)(h:@GOk p1 B W g y):tL w W op a b c n:=
 (tL.new w op a b c n).of λq d e=>GOk.own o h q d (by rw[a7t];exact e)
abbrev putA(W:World)(r:Nat)(cd nm:Int):World:=(W.setCell ⟨r,0,none⟩ (iv cd)).setCell ⟨r,1,none⟩ (iv nm)
theorem GOk.done{p p1:Inhabited uQ}{B:Nat}(o:Own p w.heap.size (doW w op a b c n).heap.size (doW w op a b c n) p1)(h:@GOk p1 B W g y)(e d:Int):@GOk p B (putA W (w.heap.size+1) e d) g y:=
 GOk.leave o h (uX.setCell (uX.setCell (uX.refl _ W) (p:=(aA (w.heap.size+1) 0)) ⟨by show w.heap.size<=w.heap.size+1;omega,by rw[a7t];show w.heap.size+1<w.heap.size+2;omega⟩ _) (p:=(aA (w.heap.size+1) 1)) ⟨by show w.heap.size<=w.heap.size+1;omega,by rw[a7t];show w.heap.size+1<w.heap.size+2;omega⟩ _)
theorem GOk.doneD{p p1:Inhabited uQ}{B:Nat}(o:Own p w.heap.size (doW w op a b c n).heap.size (doW w op a b c n) p1)(h:@GOk p1 B W g y)(e d:Int):@GOk p B (putA W (w.heap.size+1) e d).drew g y:=
 GOk.leave o h (uX.drew (uX.setCell (uX.setCell (uX.refl _ W) (p:=(aA (w.heap.size+1) 0)) ⟨by show w.heap.size<=w.heap.size+1;omega,by rw[a7t];show w.heap.size+1<w.heap.size+2;omega⟩ _) (p:=(aA (w.heap.size+1) 1)) ⟨by show w.heap.size<=w.heap.size+1;omega,by rw[a7t];show w.heap.size+1<w.heap.size+2;omega⟩ _))
theorem dH{r:Nat}(h:Ext v W)(a:v.heap.size<=r)(c b:Int):Ext v (putA W r c b):=(h.setCell (p:=(aA r 0)) a _).setCell (p:=(aA r 1)) a _
abbrev zN[Inhabited uQ](B g:Nat)(x:Hp)(a b c:Nat)(n:Int)(k:Nat)(v:World)(e:Ending)(w':World):Prop:=∃(y:Hp) (cd nm:Int),Hid (e=.returned (eX cd nm))/\Hid (DoR x a b c n y cd nm k)/\Hid (GOk B w' g y)/\Ext v w'
theorem a1k{p p1:Inhabited uQ}{B:Nat}{a b c:Nat}(o:Own p w.heap.size (doW w op a b c n).heap.size (doW w op a b c n) p1)(h:@GOk p1 B W g y)(e:Ext v W)(l:v.heap.size<=w.heap.size+1)(d:DoR x a b c n y cd nm k):@zN p B g x a b c n k v (.returned (eX cd nm)) (putA W (w.heap.size+1) cd nm):=
 ⟨y,cd,nm,rfl,d,GOk.done o h cd nm,dH e l cd nm⟩
theorem b6d(x:Hp)(i:Nat)(d:i<x.A.length)(n:Nat)(e:(x.c i).F.length<=n)(f:cN x=(i:Int)->x.sub<=(x.c i).F.length):eD x i n=x:=by
 have a:zX (x.c i) n=x.c i:=by unfold zX;rw[List.take_of_length_le e]
 have b:x.A.set i (x.c i)=x.A:=by rw[<-Hp.c_eq x i d];exact List.set_getElem_self _
 unfold eD;rw[a,b,if_neg (λh=>by have:=f h.1;omega),show(x.c i).F.length-n=0 by omega];simp
theorem c2g(x:Hp)(i n:Nat)(a:i<x.A.length)(q:Nat):(eD x i n).c q=if q=i then zX (x.c i) n else x.c q:=Hp.c_set x i (zX (x.c i) n) a q
theorem c2h(x:Hp)(i n:Nat):cN (eD x i n)=cN x:=by unfold cN eD;simp
theorem c4u(x:Hp)(i m:Nat)(e:i<x.A.length)(f:m<(x.c i).F.length):b0z (eD x i (m+1)) i m=eD x i m:=by
 have a:=c2g x i (m+1) e i;rw[if_pos rfl] at a
 have b:(zX (x.c i) (m+1)).F.eraseIdx m=(x.c i).F.take m:=by
  unfold zX;show((x.c i).F.take (m+1)).eraseIdx m=_;rw[List.take_succ_eq_append_getElem f,List.eraseIdx_append_of_length_le (by simp;omega)];have:m-((x.c i).F.take m).length=0:=by simp;omega
  rw[this];simp
 have d:({ (eD x i (m+1)).c i with F:=((eD x i (m+1)).c i).F.eraseIdx m }:Cl)=zX (x.c i) m:=by
  rw[a,b];rfl
 unfold b0z;rw[d,c2h];unfold eD;simp only [List.set_set];by_cases g:cN x=(i:Int)
 ·grind [Add.sub,Hp.c,b0z,eD]
 ·grind [Hp.c,b0z,eD]
theorem c8a[Inhabited uQ](B g:Nat)(x:Hp)(i n:Nat)(w:World)(h:GOk B w g x)(s:Snd x)(t:i<x.A.length)(D:(x.c i).st=1)(a:World)(ha:a.heap.size<=B)(hx:Ext a w):
  Calls prog 263 #[pP g,iv i,iv n] w λe w'=>e=.returned (.tuple #[])/\Hid (GOk B w' g (eD x i n))/\Ext a w':=by
 obtain⟨F,N,Q,L,H,P,J,K,G,O,b,h⟩:=h;have v:=uU (show GK B w g x F N Q L H P J from⟨K,G,O,b,h⟩);have M:=s.ok.p200 i t;have n8:=s.ok.n8;have k:=uU (show cN x=(i:Int)->x.sub<=(x.c i).F.length from λe=>(c2f s t D e).2);have W:=uU (show 0<=x.K/\x.K<=4000 by have h3:=s.r3;have D:=s.r1.M;unfold R3 at h3;omega);have SB:=uU s.r1.sub;have T:0<x.B.length:=by rw[s.r1.B];omega
 have j:=uU (b6d x i t (x.c i).F.length (Nat.le_refl _) k);have C:=uU t;have i0:(0:Int)<=(i:Int):=by omega
 have i1:(i:Int)<(x.A.length:Int):=by omega
 have R0:=uU T;go_enter func263,ntmps263;go_wp2_with fail
 go_loopg [] ((x.c i).F.length) (λU wr=>∃m:Nat,m=U/\m<=(x.c i).F.length/\Hid ((x.c i).F.length<=n->m=(x.c i).F.length)/\Hid (n<=(x.c i).F.length->n<=m)/\Hid (GK B wr g (eD x i m) F N Q L H P J)/\Ext a wr)
 case atStart=>exact⟨_,rfl,Nat.le_refl _,λ_=>rfl,id,by rw[uH j];exact uH v,hx⟩
 case round=>
  obtain⟨m,rfl,hm,Y,I,q,f⟩:=hrel;obtain⟨z,d⟩:∃z,z=eD x i m:=⟨_,rfl⟩;have R:=uU d;rw[<-d] at q;have r:=uU (show z.A.length=x.A.length by rw[d];simp [eD]);have X:=uU (show z.c i=zX (x.c i) m by rw[d,c2g x i m (uH C) i,if_pos rfl]);have u:=uU (show(z.c i).F.length=m by rw[uH X];simp [zX];omega)
  have p:=uU (show -3000000<=z.K/\z.K<=1000000/\-3000000<=z.sub/\z.sub<=1000000 by
   have D:=uH W;have A:=uH SB;rw[d];unfold eD;refine⟨?_,?_,?_,?_⟩
   ·show -3000000<=x.K-(((x.c i).F.length-m:Nat):Int);omega
   ·show x.K-(((x.c i).F.length-m:Nat):Int)<=1000000;omega
   ·show -3000000<=(if cN x=(i:Int)/\(m:Int)<x.sub then (m:Int) else x.sub);split <;> omega
   ·show(if cN x=(i:Int)/\(m:Int)<x.sub then (m:Int) else x.sub)<=1000000;split <;> omega)
  have S:=uU (show 0<z.B.length by rw[d];exact R0);obtain⟨K,G,O,b,h⟩:=uH q;have hn:0<z.A.length:=by rw[uH r];omega
  have o:i<z.A.length:=by rw[uH r];omega
  have c4:=h.bx.2.2.2.2.1;rw[h.hc hn,uH r] at c4;have p7:=h.rw.p7 i o;rw[uH u] at p7;by_cases hc:n<m
  ·have q1:(m:Int) > (n:Int):=by omega
   have y:=uU (show b0z z i (m-1)=eD x i (m-1) by
    rw[uH R];have:=c4u x i (m-1) C (by omega);rw[show m-1+1=m by omega] at this;exact this)
   have QC:=uU (b7t q i (m-1) o (by rw[uH u];omega) S (by rw[uH u];omega) ⟨p.1,p.2.1⟩ ⟨p.2.2.1,p.2.2.2⟩ (by rw[uH r];exact n8) a ha f);go_wp2_with fail;rw[show((m:Int)-1)=((m-1:Nat):Int) by omega];refine QC.mono ?_;rintro e w2 ⟨rfl,A,_,V⟩;rw[uH y] at A;have Z:=uU A;have B2:=uU I;go_wp2_with fail
   go_roundg (m-1)
   case measure=>omega
   case rel=>exact⟨m-1,rfl,by omega,λh=>by omega,λh=>by have:=uH B2 h;omega,Z,V⟩
  ·have q1:¬(m:Int) > (n:Int):=by omega
   have E:=uU (show eD x i n=z by
    rw[uH R];rcases Nat.lt_or_ge (x.c i).F.length n with l | l
    ·have:=uH Y (by omega);rw[b6d x i (uH C) n (by omega) (uH k),this,uH j]
    ·have:=uH I l;have:n=m:=by omega
     rw[this])
   go_wp2_with fail
   go_end0
   exact⟨rfl,by rw[uH E];exact q.ok,f⟩
theorem c2r[Inhabited uQ]{B:Nat}{b:Nat}{ar:Option Addr}{v4 v8:Value}{bn:Nat}{cB cO:Nat->Nat}{pb:Nat->Nat}{pa:Nat->Option Addr}{pk:Nat->Nat}{kn hd:Nat}{vf:Value}{F:List Int}{vk:Value}{K:List Nat}{role:Nat->Nat}(h:SAt B w b x ar kr v4 v8 br cB cO bn pb pa pk kn hd vf F vk K role)(s:Snd x)(hp:x.E=3)(i:Nat)(y:x.I=(i:Int))(d:i<x.A.length)(R:whB (x.c i)=true)(ho:Ho F)(hl:F.length<=1000000000)(a:World)(ha:a.heap.size<=B)(hx:Ext a w):
  Calls prog 331 #[.agg #[pP b]] w λe w'=>e=.returned (zV (cY x).E b)/\Hid (∃pa' pk' vf' F' role',SAt B w' b (cY x) ar kr v4 v8 br cB cO bn pb pa' pk' kn hd vf' F' vk K role'/\Ho F'/\F'.Perm ((i:Int)::F))/\Ext a w':=by
 have Z:x.I.toNat=i:=by omega
 have E:=uU (show cY x={ x with K:=x.K-(1+(x.c i).F.length),A:=x.A.set i Cl0,I:=(i:Int)+1 } by
  unfold cY;rw[if_neg (by omega),Z,if_pos R,y])
 have EP:=uU (show(cY x).E=3 by rw[uH E];exact hp)
 have V:=uU (show IntKind.i64.wrap (x.K-(1+((x.c i).F.length:Int)))=x.K-(1+((x.c i).F.length:Int)) by
  have ab:=s.ok.p200 i d;have aa:x.K<=4000:=by have:=s.r3.2;have:=s.r1.M;omega
  have ae:0<=x.K:=by have:=s.r3.1;omega
  rw[IntKind.wrap_i64];omega)
 have LP:=uU (s.ok.p200 i d);have H:=uU h;have n8:=s.ok.n8;have v:=(Ext.refl w).alloc (.cells #[pP b] 235);have n:=h.sb.bx.2.2.2.2.2.2.1;rw[y] at n;have Y:=uU (a1v b x.A.length kn bn i _ (v.keep n) (v.keep h.sb.n13) d);have o:=uU v;have af:b<w.heap.size:=h.sb.nb.1;have lo:=h.sb.lo.1;have hn:0<x.A.length:=by omega
 have HI:=uU y;have WH:=uU R;have Q:=uU (h.rw.nc i d);have A:=uU (show ∀q,vf.ownBlock=some q->q<w.heap.size from λq hq=>(h.sb.fr.own.lt q hq).2);have T:=uU (And.intro ho hl);clear h hp v y n Z R s ho hl;go_enter func331,ntmps331;go_wp2_with fail;refine Y.mono ?_;rintro e w1 ⟨rfl,N⟩;have C:w1.cell? (aA w.heap.size 0)=some (pP b):=N.keep (by simp [go_sem]);have S:=uU (o.trans N);have g:=uU (H.ext S);have U:=(g.sb.nd i d).2;have G:=uU (a6m (x.c i) bn i (cB i) (cO i) w1 U (g.rw.s i d));rw[uH WH] at G;clear N o Y;go_wp2_with fail;refine G.mono ?_;rintro e j ⟨rfl,D⟩;subst D;have X:=g.sb.bx.2.1;have f1:=g.sb.nb.2 1;have z:b<j.heap.size:=uL X;have I:w.heap.size<j.heap.size:=uL C;have L:¬w.heap.size=b:=by omega
 have P:¬b=w.heap.size:=by omega
 clear U G;go_wp2_with fail;go_region_with (go_at_call 119;refine(b1r (x.c i) bn (i*2) (cB i) (cO i) (pa i) (pk i) _ (g.ext (Ext.refl j).drew |>.sb.nd i d).2 (g.ext (Ext.refl j).drew |>.rw.p7 i d) (by have:=uH LP;omega)).mono ?_;rintro e w3 ⟨rfl,O⟩;subst O)
 all_goals
  rw[uH V];obtain⟨r,f⟩:∃W,W=(j.setCell (aA b 1) (iv (x.K-(1+((x.c i).F.length:Int))))).drew:=⟨_,rfl⟩;have H3:=uU (show SAt B r b { x with K:=x.K-(1+((x.c i).F.length:Int)) } ar kr v4 v8 br cB cO bn pb pa pk kn hd vf F vk K role by rw[f];exact(g.usedTo _).ext (Ext.refl _).drew);have X3:=uU (show Ext a r by rw[f];exact((hx.trans S).setCell (p:=(aA b 1)) (show a.heap.size<=b by omega) _).drew);have M:r.cell? (aA w.heap.size 0)=some (pP b):=by rw[f,a1f,uC _ (.inl P)];exact C
  rw[<-f];clear f X f1 C I z;have l:w.heap.size<r.heap.size:=uL M;go_wp2_with fail;refine(b1d H3 i d T.1 T.2 a ha X3).mono ?_;rintro e t ⟨rfl,J,x4⟩;obtain⟨pa',pk',vf',F',role',u,m,k⟩:=J.1;have r4:t.cell? (aA w.heap.size 0)=some (pP b):=(World.cell?_of_block (a:=(aA w.heap.size 0)) (J.2 w.heap.size l L (by have:=Q.1.1;omega) (λe=>Nat.lt_irrefl _ (A _ e)))).trans M;have n:t.cell? (aA b 6)=some (iv i):=by have:=u.sb.bx.2.2.2.2.2.2.1;exact this.trans (by rw[uH HI])
  have f6:=u.sb.nb.2 6;have ad:b<t.heap.size:=uL n;have ac:w.heap.size<t.heap.size:=uL r4;have FN:=uU (And.intro (u.I ((i:Int)+1)) (And.intro m k));have XN:=uU (x4.setCell (p:=(aA b 6)) (show a.heap.size<=b by omega) (iv ((i:Int)+1)));clear J u M l m k x4;go_wp2_with fail;go_ret;exact⟨by rw[uH EP];rfl,by rw[uH E];exact⟨_,_,_,_,_,FN⟩,XN⟩
def b9x(c:Cl)(f:Pr->Bool):Cl:={ c with F:=c.F.filter f }
def b9y(x:Hp)(i:Nat)(f:Pr->Bool)(g:Nat)(t:Int):Hp:={ x with A:=x.A.set i (b9x (x.c i) f),K:=x.K-g,sub:=t }
theorem a9x(x:Hp)(i:Nat)(f:Pr->Bool)(g:Nat)(t:Int)(a:i<x.A.length)(q:Nat):(b9y x i f g t).c q=if q=i then b9x (x.c i) f else x.c q:=Hp.c_set x i (b9x (x.c i) f) a q
theorem c6j(f:Pr->Bool)(l:List Pr)(n:Nat):((l.take n).filter f).length<=(l.filter f).length/\((l.take n).filter f).length<=n:=by
 constructor
 ·have e:(l.filter f)=((l.take n).filter f)++((l.drop n).filter f):=by rw[<-List.filter_append,List.take_append_drop]
  rw[e,List.length_append];omega
 ·grind [VNt.f,Grw.at,Hp.at]
theorem b3w.flt(h:Snd x)(i:Nat)(hi:i<x.A.length)(f:Pr->Bool)(g:Nat)(t:Int)(hg:((x.c i).F.filter f).length+g=(x.c i).F.length)(ht:t=if cN x=(i:Int) then ((((x.c i).F.take x.sub.toNat).filter f).length:Int) else x.sub):b3w x (b9y x i f g t) where
 hl:=by simp [b9y]
 rest:=a2r.refl _
 c:=λq=>by rw[a9x x i f g t hi q];split;(· rename_i t;rw[t];exact⟨rfl,rfl,rfl,rfl,rfl⟩);(· exact⟨rfl,rfl,rfl,rfl,rfl⟩)
 wk:=λq=>by rw[a9x x i f g t hi q];split;(· rename_i t;rw[t];exact .inl rfl);(· exact .inl rfl)
 la:=λq=>by rw[a9x x i f g t hi q];split;(· rename_i t;rw[t];exact .inl rfl);(· exact .inl rfl)
 sp:=λq=>by rw[a9x x i f g t hi q];split;(· rename_i t;rw[t];exact id);(· exact id)
 p:=λq hq k hk=>by
  rw[a9x x i f g t hi q] at hk ⊢;by_cases e:q=i
  ·rw[if_pos e] at hk ⊢;rw[e];obtain⟨j,h1,h2,h3⟩:=b2t f Pr0 (x.c i).F k hk;refine⟨j,h1,h2,λhs=>?_⟩;show(k:Int)<t↔_;rw[ht,if_pos hs];have:=h3 x.sub.toNat;have:=h.r1.sub;omega
  ·grind [Grw.at,Hp.at,Hp.c,cN,b9y]
 le:=λq hq=>by
  rw[a9x x i f g t hi q];split
  ·rename_i e;rw[e];exact List.length_filter_le _ _
  ·exact Nat.le_refl _
 us:=by
  have u:=a2e x.A i (b9x (x.c i) f) hi;rw[Hp.c_eq x i hi] at u;have h3:=h.r3.1;show x.K-(g:Int)=(units (x.A.set i (b9x (x.c i) f)):Nat);by_cases s1:(x.c i).st=1
  ·grind [hV,Hp.c,b9x,VNt.f,Grw.at,Hp.at,cN,b9y]
  ·have e1:hV (x.c i)=0:=by unfold hV;rw[if_neg s1]
   have e2:hV (b9x (x.c i) f)=0:=by grind [hV,b9x,Hp.c,VNt.f,cN,b9y]
   have e3:(x.c i).F.length=0:=by
    rcases h.r2.1 i hi with z | z | z
    ·exact z.2.1.2.2.2.2.2
    ·exact z.2.1.2.2.2.2.2
    ·exact absurd z.1 s1
   rw[e1,e2] at u;omega
 ul:=by show x.K-(g:Int)<=x.K;omega
 s0:=by
  have:=h.r1.sub;have:=(c6j f (x.c i).F x.sub.toNat).2;show 0<=t/\t<=x.sub;rw[ht]
  split <;> omega
 s1:=λq hq hs=>by
  have k:=h.scan q hs;show t<=_;rw[a9x x i f g t hi q,ht];by_cases e:q=i
  ·rw[if_pos e,if_pos (by rw[<-e];exact hs)];have:=(c6j f (x.c i).F x.sub.toNat).1;show _<=((((x.c i).F.filter f).length:Nat):Int);omega
  ·grind [Hp.c,cN,b9y]
theorem c9d{z:Hp}(r:a2r z x)(a:z.A.length=x.A.length):cN z=cN x:=by grind [Hp.r,a2r,cN,dX.r5]
theorem Snd.stTo{x:Hp}(s:Snd x)(H:Nat->Bool):∀k,k<=x.A.length->Snd (stTo x H k)
 | 0,_=>s
 | k+1,hk=>by
  have sz:=Snd.stTo s H k (by omega);have zl:=a7v x H k;have zc:(Go.Proofs.YtddkhnclmeikfaaGreat.stTo x H k).c k=x.c k:=by rw[c4y x H k (by omega) k,if_neg (by omega)]
  have sc:=c9d (b2n x H k) zl;show Snd (a3e x H k (Go.Proofs.YtddkhnclmeikfaaGreat.stTo x H k));obtain⟨z,hz⟩:∃z,z=Go.Proofs.YtddkhnclmeikfaaGreat.stTo x H k:=⟨_,rfl⟩;rw[<-hz] at sz zl zc sc ⊢;have hi:k<z.A.length:=by omega
  unfold a3e
  split
  ·have e:({ z with A:=z.A.set k (b9k x H (x.c k)),K:=z.K-tK x H (x.c k) (x.c k).F,sub:=a6i x H k z.sub }:Hp)=b9y z k (λp=>!goB x H (x.c k) p) (tK x H (x.c k) (x.c k).F) (a6i x H k z.sub):=by
    unfold b9y b9x b9k a6h;rw[zc]
   rw[e];refine sz.thin (b3w.flt sz k hi _ _ _ ?_ ?_)
   ·rw[zc];exact a8o x H (x.c k) (x.c k).F
   ·unfold a6i;rw[sc,zc]
    split
    ·rename_i es;have a:=sz.scan k (by rw[sc];exact es);have b:=sz.r1.sub;rw[zc] at a;have c:=a8o x H (x.c k) ((x.c k).F.take z.sub.toNat);rw[List.length_take] at c;unfold a6h at c;omega
    ·rfl
  ·split
   ·rename_i _ e1;have s1:=a0a sz.r2 k hi (.inl (by rw[zc];exact e1));have e:({ z with A:=z.A.set k (b7d (x.c k)) }:Hp)=cK z k (b7d (z.c k)):=by rw[zc];rfl
    rw[e];exact sz.thin (b3w.self sz k _ hi s1 ⟨rfl,rfl,rfl,rfl,rfl⟩ rfl (.inl rfl) (.inr ⟨by show(0:Int)<=2;omega,by show(2:Int)<=3;omega⟩) (λ_=>.inl (by rw[zc];exact e1)))
   ·exact sz
theorem Snd.settle(s:Snd x)(H:Nat->Bool):Snd (a4t x H):=by
 rw[<-d1v];exact s.stTo H _ (Nat.le_refl _)
theorem DoR.sndB{a b c:Nat}(s:Snd x)(m:a<16)(l:k≠1->k≠23->b<16)(d:k=1->b<=255/\c<=200)(g:k=23->b<=64/\c<=4000)(i:k=11->c<=3)(f:k=12->c<=1)(j:k≠9)(h:DoR x a b c n y cd nm k):Snd y:=by
 by_cases e:k=1
 ·subst e;exact b9n.snd s (d rfl).1 (d rfl).2 h
 ·grind [Snd.settle,DoR.sndA,DoR,Hp.c]
theorem DoR.snd{a b c:Nat}(s:Snd x)(i:a<16)(j:k≠1->k≠23->b<16)(l:k=1->b<=255/\c<=200)(f:k=23->b<=64/\c<=4000)(g:k=11->c<=3)(e:k=12->c<=1)(h:DoR x a b c n y cd nm k):Snd y:=by
 by_cases d:k=9
 ·subst d;rcases h with h | h
  ·rw[h.2.1];exact s
  ·exact b5z.snd s i h.1 rfl h.2
 ·grind [DoR.sndB,DoR,Hp.c]
theorem c2b.snd(s:Snd x)(h:c2b x op a b c n y cd nm):Snd y:=by
 rcases h with⟨_,h2,_⟩ | ⟨ok,h2⟩
 ·rw[h2];exact s
 ·obtain⟨l,m,j,k⟩:=cL ok;have i:zJ op<=15:=by unfold zJ;split <;> omega
  have g:op≠1->op≠23->tU op<=15:=λd f=>by unfold tU;rw[if_neg d,if_neg f];split <;> omega
  refine DoR.snd s (by omega) (λd f=>by have:=g (by omega) (by omega);omega) (λe=>?_) (λe=>?_) (λe=>?_) (λe=>?_) h2
  ·grind [tU,tC,c2b,Hp.c]
  ·grind [tU,zD,tC,c2b,Hp.c]
  ·grind [tC,c2b,Hp.c]
  ·grind [tC,c2b,Hp.c]
end Go.Proofs.YtddkhnclmeikfaaGreat
