import Derived.Test.YtddkhnclmeikfaaGreatGg1
import Derived.Test.YtddkhnclmeikfaaGreatWk2
import Derived.Test.YtddkhnclmeikfaaGreatSg
import Derived.Test.YtddkhnclmeikfaaGreatSpecE
import Derived.Test.YtddkhnclmeikfaaGreatImpI
import Derived.ArgAppend
set_option maxRecDepth 100000
set_option maxHeartbeats 8000000
namespace Go.Proofs.YtddkhnclmeikfaaGreat
open Go.RowKit Tryz
attribute [local go_sem ↓] Go.wp_at_zero Go.wp_at_succ
variable{x z:Hp}{w w' w1:World}{ar ac ag an:Option Addr}{kr kc B g bc br kg i c j a bs b k p n kn u:Nat}{vg v v':Value}{O N:List Nat}{T L0 L T' L':List Int}{y:Wd}{pb pk role:Nat->Nat}{pa:Nat->Option Addr}{cd nm wk:Int}{l:List Pr}
def hwB(x:Hp)(y:Wd):Bool:=(y.k == 2) && qV (x.c y.a.toNat)
theorem b4v(x:Hp)(y:Wd)(b i:Nat)(w:World)(h:VAt w b x ar kr ac kc ag kg an kn)(z:(y.k == 2)=true)(f:i<x.A.length):
  Calls prog 231 #[pP b,.agg #[iv y.k,iv y.n,iv i]] w λe w'=>e=.returned (.bool (qV (x.c i)))/\Ext w w':=by
 obtain⟨g,j,m,r,rfl,rfl,B,q⟩:=h.N i f;obtain⟨t,v,p,s,u,C⟩:=h.H.cell i f;cases u;have a:=h.n13;have l:=(Ext.refl w).alloc (.cells #[iv y.k,iv y.n,iv i] 152);go_enter func231,ntmps231;go_wp2_with fail;refine(a3b y b x.A.length g j kn i _ z (l.keep a) f).mono ?_;rintro e D ⟨rfl,o⟩;have d:=l.trans o;go_wp2_with fail;refine(a5g (x.c i) g (j+i*2) m (r+i*8) p s _ (d.keep q) (C.ext d)).mono ?_;rintro e A ⟨rfl,rfl⟩;go_wp2;go_ret;exact⟨rfl,d⟩
theorem a7j(x:Hp)(y:Wd)(b:Nat)(w:World)(h:VAt w b x ar kr ac kc ag kg an kn)(g:uW y x.A.length):
  Calls prog 231 #[pP b,y.v] w λe w'=>e=.returned (.bool (hwB x y))/\Ext w w':=by
 cases d:(y.k == 2)
 ·have:hwB x y=false:=by simp [hwB,d]
  rw[this];exact b6y y b w d
 ·have f:0<=y.a/\y.a<x.A.length:=by simp at d;unfold uW at g;omega
  have e:hwB x y=qV (x.c y.a.toNat):=by simp [hwB,d]
  rw[e];have:=b4v x y b y.a.toNat w h d (by omega)
  rwa [Int.toNat_of_nonneg f.1] at this
theorem a3r(x:Hp)(b n cap:Nat)(C:Option Addr)(f:Nat->Pr)(w:World)(h:VAt w b x ar kr ac kc ag kg an kn)
  (lp:n<=35184372088832) (P:∀k,k<n->∃b' o',C=some (aA b' o')/\qN w b' (o'+k*6) (f k)) (O:∀k,k<n->uW (f k).key x.A.length/\uW (f k).val x.A.length) :
  Calls prog 185 #[pP b,.slice C n cap] w λe w'=>∃r:Bool,Hid (e=.returned (.bool r))/\(r=true↔∃k,k<n/\(hwB x (f k).key=true\/hwB x (f k).val=true))/\Ext w w':=by
 have J:=uU P;have G:=uU O;go_enter func185,ntmps185;go_wp2_with fail;go_loopw [9] (λi wr=>∃l:Nat,l<=n/\i=iv l/\(∀j,j<l->¬(hwB x (f j).key=true\/hwB x (f j).val=true))/\Ext w wr) (λi _=>n-(intOf i).toNat)
 case atStart=>exact⟨0,Nat.zero_le _,rfl,λj h=>by omega,Ext.refl _⟩
 case round=>
  obtain⟨l,V,rfl,q,c⟩:=hrel;have A:=uU q;by_cases d:l<n
  ·obtain⟨Z,U,rfl,F,M,H,D,K,I⟩:=uH J l d;have p:=uU (G l d);have e0:=c.keep F;have R:=c.keep M;have e2:=c.keep H;have e3:=c.keep D;have T:=c.keep K;have W:=c.keep I;have E:(0:Int)<=(l:Int):=by omega
   have L:(l:Int)<(n:Int):=by omega
   have g:=c.alloc (.cells #[iv (f l).key.k,iv (f l).key.n,iv (f l).key.a,iv (f l).val.k,iv (f l).val.n,iv (f l).val.a] 154);go_wp2_with fail;refine(a7j x (f l).key b _ (h.ext g) p.1).mono ?_;rintro e Q ⟨rfl,m⟩;have s:=g.trans m;have u:=λ(o:Nat) (v:Value) (hc:(wr.alloc (.cells #[iv (f l).key.k,iv (f l).key.n,iv (f l).key.a,iv (f l).val.k,iv (f l).val.n,iv (f l).val.a] 154)).cell? (aA wr.heap.size o)=some v)=>m.keep hc
   have u3:=u 3 _ (by simp [go_sem];rfl);have u4:=u 4 _ (by simp [go_sem];rfl);have u5:=u 5 _ (by simp [go_sem];rfl);cases B:hwB x (f l).key
   ·go_wp2_with fail;refine(a7j x (f l).val b _ (h.ext s) p.2).mono ?_;rintro e X ⟨rfl,t⟩;have z:=s.trans t;cases y:hwB x (f l).val
    ·have S:=uU (show ∀j,j<l+1->¬(hwB x (f j).key=true\/hwB x (f j).val=true) from λj hj=>by
      by_cases e:j=l
      ·subst e;simp [B,y]
      ·exact A j (by omega))
     go_wp2;go_roundw
     case rel=>exact⟨l+1,by omega,by go_num,S,z⟩
     case measure=>simp [intOf];omega
    ·have Y:=uU (show ∃k,k<n/\(hwB x (f k).key=true\/hwB x (f k).val=true) from⟨l,d,.inr y⟩);go_wp2;go_ret;exact⟨true,rfl,⟨λ_=>uH Y,λ_=>rfl⟩,z⟩
   ·have Y:=uU (show ∃k,k<n/\(hwB x (f k).key=true\/hwB x (f k).val=true) from⟨l,d,.inl B⟩);go_wp2;go_ret;exact⟨true,rfl,⟨λ_=>uH Y,λ_=>rfl⟩,s⟩
  ·have N:=uU (show ¬∃k,k<n/\(hwB x (f k).key=true\/hwB x (f k).val=true) from λ⟨k,hk,hh⟩=>uH A k (by omega) hh);go_wp2;go_ret;exact⟨false,rfl,⟨λf=>by simp at f,λr=>(N r).elim⟩,c⟩
def a2p(w:World)(x:Hp)(ac:Option Addr):Prop:=∀i,i<x.A.length->∀bc oc ad l c,ac=some ⟨bc,oc,none⟩->w.cell? ⟨bc,oc+i*8+7,none⟩=some (.slice ad l c)->l<=c\/l=0
theorem a2p.ext(h:a2p w x ac)(j:HAt w b x ar kr ac kc ag kg)(e:Ext w w'):a2p w' x ac:=λi a n m ad l c d f=>by
 obtain⟨q,k,o,p,g,C⟩:=j.cell i a;rw[d] at g;cases g;have:=(C.ext e).p7;rw[this] at f;cases f;exact h i a _ _ _ _ _ d C.p7
theorem a9m(h:R4 x)(m:uY x)(i k:Nat)(f:i<x.A.length)(g:k<(x.c i).F.length):
  (uW ((x.c i).p k).key x.A.length/\uW ((x.c i).p k).val x.A.length)/\(hwB x ((x.c i).p k).key=true↔hY x ((x.c i).p k).key)/\(hwB x ((x.c i).p k).val=true↔hY x ((x.c i).p k).val):=by
 have b:∀j,¬uE x j:=λj d=>by have:=d.1;unfold uY at m;omega
 have l:cH x i k:=⟨by unfold uY at m;omega,λe=>by unfold uY at m;omega⟩;have a:=((h.2 i f).2 k g).2 (b i)
 have key:∀y:Wd,hU x y (¬cH x i k)->(hwB x y=true↔hY x y):=λy n=>by grind [hU,cH,hwB,hY,qV,R4,uY,Hp.c,uW,Cl.p]
 exact⟨⟨a.1.1,a.2.1⟩,key _ a.1,key _ a.2⟩
theorem a0a(b:R2 x)(i:Nat)(a:i<x.A.length)(h:hQ (x.c i)):(x.c i).st=1:=by grind [R2,uX.A,QFr.A,hQ,Hp.c,hJ,eH,yV]
def R7b(x:Hp):Prop:=
 (∀i,i<x.A.length->¬(a0w (x.c i)=true/\qV (x.c i)=true/\(x.E=2\/(i:Int)<x.I))/\((x.c i).J=2->¬∃k,k<(x.c i).F.length/\(hwB x ((x.c i).p k).key=true\/hwB x ((x.c i).p k).val=true)))
def R7c(x:Hp):Prop:=x.E=2->x.D.length≠0->∀k:Nat,k<x.sub.toNat->¬(hwB x ((x.c x.g0).p k).key=true\/hwB x ((x.c x.g0).p k).val=true)
theorem g0_ok(b:R5 x)(h:x.D.length≠0):x.g0<x.A.length/\x.D.getD 0 0=(x.g0:Int)/\(x.c x.g0).J=1:=by
 have a:x.D.getD 0 0∈x.D:=a2w x.D 0 (by omega);have:=((a9i x).1 b).2.2.2.1 _ a;unfold Hp.g0;exact⟨by omega,by omega,this.2⟩
theorem R7_iff(v:R2 x)(u:R4 x)(t:R5 x)(y:R6 x)(m:uY x):R7 x↔R7b x/\R7c x:=by
 have q:=λi k f d=>a9m u m i k f d
 have l:x.E=2->x.D.length≠0->x.sub<=(x.c x.g0).F.length:=λp g=>(y.2.1 p).2.2 g
 constructor
 ·intro h;have h:=h m;refine⟨λi f=>⟨λ⟨a,b,c⟩=>?_,λo ⟨k,d,s⟩=>?_⟩,λp g k d s=>?_⟩
  ·grind [a3k,Hp.c,qV,R2,R4,R5,R6,uY,R7,R7b]
  ·grind [hD,R2,R4,R5,R6,uY,R7,R7b,R7c]
  ·grind [g0_ok,Cl.p,Hp.c,Hp.g0,hD,R2,R4,R5,R6,uY]
 ·intro⟨hb,o⟩ _ i f;refine⟨λ⟨a,b,c⟩=>(hb i f).1 ⟨a3k.2 a,?_,c⟩,λk d=>?_⟩
  ·unfold qV;simp;exact⟨a0a v i f a,b⟩
  ·unfold hD at d;by_cases r:(x.c i).J=2
   ·grind [R2,R4,R5,R6,uY,R7,R7b,R7c]
   ·rw[if_neg r] at d;by_cases e:x.E=2/\x.D.length≠0/\x.D.getD 0 0=(i:Int)
    ·rw[if_pos e] at d;obtain⟨B,C,z⟩:=g0_ok t e.2.1;have n:i=x.g0:=by have:=e.2.2;omega
     have A:=l e.1 e.2.1;have j:k<(x.c i).F.length:=by rw[n];omega
     have:=o e.1 e.2.1 k d;rw[<-n] at this;exact⟨λw=>this (.inl ((q i k f j).2.1.2 w)),λw=>this (.inr ((q i k f j).2.2.2 w))⟩
    ·rw[if_neg e] at d;omega
def SK(c:Cl):Prop:=c.T≠1/\c.T≠3
def SV(c:Cl):Prop:=c.T≠2/\c.T≠3
def dE(x:Hp)(i:Nat):Prop:=∀P:Nat->Prop,(∀k (h:k<x.B.length),x.B[k].k=2->P (tgt x x.B[k]))->(∀i,i<x.A.length->(x.c i).U=2->P i)->
 (∀j p,P j->p<(x.c j).F.length->SK (x.c j)->((x.c j).p p).key.k=2->P (tgt x ((x.c j).p p).key))->
 (∀j p,P j->p<(x.c j).F.length->SV (x.c j)->(((x.c j).p p).key.k=2->P (tgt x ((x.c j).p p).key))->((x.c j).p p).val.k=2->P (tgt x ((x.c j).p p).val))->P i
theorem dE.reg(k:Nat)(h:k<x.B.length)(b:x.B[k].k=2):dE x (tgt x x.B[k]):=λ_ a _ _ _=>a k h b
theorem dE.due(i:Nat)(a:i<x.A.length)(h:(x.c i).U=2):dE x i:=λ_ _ b _ _=>b i a h
theorem dE.key(j p:Nat)(h:dE x j)(f:p<(x.c j).F.length)(g:SK (x.c j))(e:((x.c j).p p).key.k=2):dE x (tgt x ((x.c j).p p).key):=λP a b c d=>c j p (h P a b c d) f g e
theorem dE.val(j p:Nat)(h:dE x j)(i:p<(x.c j).F.length)(l:SV (x.c j))(g:((x.c j).p p).key.k=2->dE x (tgt x ((x.c j).p p).key))(f:((x.c j).p p).val.k=2):dE x (tgt x ((x.c j).p p).val):=λP a b c d=>d j p (h P a b c d) i l (λe=>g e P a b c d) f
theorem dE.reached(f:R2 x)(h:dE x i):uZ x i:=
 h (uZ x) (λk h a=>uZ.reg k h a) (λi d e=>uZ.U i d (a0a f i d (.inr e)) (.inr e)) (λj p b c _ a=>uZ.key j p b c a) (λj p b c _ _ a=>uZ.val j p b c a)
theorem dE.good(a:R2 x)(b:R4 x)(h:dE x i):qD x i:=(h.reached a).good a b
def a9d(x:Hp)(L:List Int):Prop:=∀z,z∈L->∃i:Nat,z=(i:Int)/\dE x i
theorem a9d.add(h:a9d x L)(a:Add x y L L')(b:y.k=2->dE x (tgt x y)):a9d x L':=by grind [a9d,Add,dE,tgt,Add.new]
def c1e(x:Hp)(k:Nat)(L:List Int):Prop:=∀i,i<k->i<x.A.length->(x.c i).U=2->(i:Int)∈L
def qZ(x:Hp)(L0:List Int)(j k:Nat)(T:List Int):Prop:=∀p,p<k->(SK (x.c j)->((x.c j).p p).key.k=2->(tgt x ((x.c j).p p).key:Int)∈T)/\(SV (x.c j)->(((x.c j).p p).key.k=2->(tgt x ((x.c j).p p).key:Int)∈L0)->((x.c j).p p).val.k=2->(tgt x ((x.c j).p p).val:Int)∈T)
theorem qZ.mono(h:qZ x L0 j k T)(s:∀z,z∈T->z∈T'):qZ x L0 j k T':=by grind [qZ,Cl.p]
def ClH(x:Hp)(L0:List Int)(c:Nat)(T:List Int):Prop:=∀q,q<c->qZ x L0 (it T q).toNat (x.c (it T q).toNat).F.length T
theorem ClH.add(h:ClH x L0 c T)(a:Add x y T T')(g:c<=T.length):ClH x L0 c T':=λq d=>by
 obtain⟨R,e⟩:=a.pre;have f:it T' q=it T q:=by rw[e];exact c3x (by omega)
 rw[f];exact(h q d).mono (λz b=>a.sub b)
structure yL(x:Hp)(L0:List Int)(c:Nat)(T:List Int):Prop where
 o:a9d x T
 r:b1q x x.B.length T
 d:c1e x x.A.length T
 e:∃R,T=L0++R
 c:ClH x L0 c T
theorem yL.add(h:yL x L0 c T)(a:Add x y T T')(p:c<=T.length)(q:y.k=2->dE x (tgt x y)):yL x L0 c T':=
 ⟨h.o.add a q,λj g f e=>a.sub (h.r j g f e),λi b n e=>a.sub (h.d i b n e),by
  obtain⟨R,e⟩:=h.e;obtain⟨m,l⟩:=a.pre;exact⟨R++m,by rw[l,e,List.append_assoc]⟩,h.c.add a p⟩
theorem yL.step(h:yL x L0 c T)(e:it T c=(j:Int))(k:qZ x L0 j (x.c j).F.length T):yL x L0 (c+1) T:=
 ⟨h.o,h.r,h.d,h.e,λq a=>by
  by_cases f:q=c
  ·subst f;rw[e];simpa using k
  ·exact h.c q (by omega)⟩
structure c1f(x:Hp)(n:Int)(L:List Int):Prop where
 o:a9d x L
 r:b1q x x.B.length L
 d:c1e x x.A.length L
 b:-1<=n/\n<=L.length
 c:n=L.length->ClH x L L.length L
theorem c1f.begin{n:Int}(h:c1f x n L):yL x L 0 L:=⟨h.o,h.r,h.d,⟨[],by simp⟩,λq a=>by omega⟩
theorem yL.rest(h:yL x L0 T.length T):c1f x L0.length T:=by
 obtain⟨R,e⟩:=h.e;refine⟨h.o,h.r,h.d,⟨by omega,by rw[e];simp;omega⟩,λf=>?_⟩
 have:R=[]:=by
  have:(T.length:Int)=L0.length+R.length:=by rw[e];simp
  exact List.length_eq_zero_iff.1 (by omega)
 have a:T=L0:=by rw[e,this];simp
 have:=h.c;rw[<-a] at this;exact this
theorem c1f.done(h:c1f x L.length L)(i:Nat):(i:Int)∈L↔dE x i:=by
 constructor
 ·intro q;obtain⟨j,e,f⟩:=h.o _ q;have:i=j:=by omega
  rw[this];exact f
 ·intro q
  have n:∀j:Nat,(j:Int)∈L->qZ x L j (x.c j).F.length L:=λj f=>by
   obtain⟨q,s,e⟩:=List.getElem_of_mem f;have:=h.c rfl q s;rw[<-b2z L q s,e] at this
   simpa using this
  exact q (λi=>(i:Int)∈L) (λk a e=>h.r k a a e) (λi m e=>h.d i m m e) (λj p b g l a=>(n j b p g).1 l a) (λj p b g l t a=>(n j b p g).2 l t a)
def zs(O:List Nat):List Int:=O.map (λi:Nat=>(i:Int))
def ad(O:List Nat)(o:Option Nat):List Nat:=match o with | none=>O | some i=>if i∈O then O else O++[i]
def wq(x:Hp)(y:Wd):Option Nat:=if y.k=2 then some (tgt x y) else none
def a6a(x:Hp)(k:Nat):List Nat:=(x.B.take k).foldl (λO y=>ad O (wq x y)) []
def tE(x:Hp)(M:List Nat)(k:Nat):List Nat:=(M.take k).foldl (λO i=>ad O (some i)) (a6a x x.B.length)
def prO(x:Hp)(j p:Nat)(O:List Nat):List Nat:=((x.c j).F.take p).foldl (λO q=>ad (ad O (wq x q.key)) (wq x q.val)) O
def clO(x:Hp):Nat->Nat->List Nat->List Nat
 | 0,_,O=>O
 | f+1,c,O=>if h:c<O.length then clO x f (c+1) (prO x O[c] (x.c O[c]).F.length O) else O
def yC(x:Hp)(M:List Nat):List Nat:=clO x (x.A.length+1) 0 (tE x M M.length)
theorem b8u:(i:Int)∈zs O↔i∈O:=by grind [zs]
theorem c0v(h:c<O.length):it (zs O) c=(O[c]:Int):=by unfold it zs;simp [h]
theorem b8v(h:Add x y (zs O) L'):L'=zs (ad O (wq x y)):=by
 unfold wq;rcases h with⟨k,e⟩ | ⟨k,⟨m,e⟩ | ⟨m,e⟩⟩
 ·rw[if_neg k,e];rfl
 ·rw[if_pos k,e];unfold ad;simp only [if_pos (b8u.1 m)]
 ·rw[if_pos k,e];unfold ad;simp only [if_neg (λq=>m (b8u.2 q))];simp [zs]
theorem b1v{α β:Type}(f:β->α->β)(b:β)(l:List α)(k:Nat)(h:k<l.length):(l.take (k+1)).foldl f b=f ((l.take k).foldl f b) l[k]:=by
 rw[List.take_succ_eq_append_getElem h,List.foldl_append];rfl
theorem b1w(k:Nat)(h:k<x.B.length):a6a x (k+1)=ad (a6a x k) (wq x x.B[k]):=b1v _ _ _ k h
theorem a9n{M:List Nat}(k:Nat)(h:k<M.length):tE x M (k+1)=ad (tE x M k) (some M[k]):=b1v _ _ _ k h
theorem b5a(p:Nat)(h:p<(x.c j).F.length):prO x j (p+1) O=ad (ad (prO x j p O) (wq x ((x.c j).p p).key)) (wq x ((x.c j).p p).val):=by grind [Cl.p,Hp.c,prO,ad,wq,uZ.key,uZ.val,b1v]
theorem ad_len(O:List Nat)(o:Option Nat):O.length<=(ad O o).length:=by
 unfold ad
 split
 ·exact Nat.le_refl _
 ·split <;> simp
theorem c0w{α:Type}(f:List Nat->α->List Nat)(hf:∀O a,O.length<=(f O a).length):∀(l:List α) (O:List Nat),O.length<=(l.foldl f O).length
 | [],_=>Nat.le_refl _
 | a::l,O=>Nat.le_trans (hf O a) (c0w f hf l (f O a))
theorem b8w(x:Hp)(j p:Nat)(O:List Nat):O.length<=(prO x j p O).length:=by grind [Cl.p,prO,c0w,ad_len]
theorem c0x{f:Nat}(h:c<O.length)(e:O[c]=j):clO x f (c+1) (prO x j (x.c j).F.length O)=clO x (f+1) c O:=by
 subst e;simp only [clO,h,dite_true]
theorem c5w{x:Hp}{f c:Nat}{O:List Nat}(h:c=O.length):clO x f c O=O:=by
 cases f with
 | zero=>rfl
 | succ f=>simp only [clO,show ¬c<O.length by omega,dite_false]
structure IsW(x:Hp)(N:List Nat):Prop where
 m:∀i,i∈N↔i<x.A.length/\hQ (x.c i)
 nd:N.Nodup
 s:∀i j (hi:i<N.length) (hj:j<N.length),i<j->(x.c N[i]).born<=(x.c N[j]).born
theorem b7n(r:R2 x){M:List Int}(l:M.Perm (a5e x x.A.length))(s:b8p x M):∃N:List Nat,M=zs N/\IsW x N:=by
 have m:∀z,z∈M->∃q:Nat,z=(q:Int)/\q<x.A.length/\hQ (x.c q):=λz g=>by
  obtain⟨q,f,d,e⟩:=(a0r _ _ _ _).1 (l.mem_iff.1 g);exact⟨q,e.symm,f,(a8h.1 d).2⟩
 have e:M=zs (M.map Int.toNat):=by
  unfold zs;rw[List.map_map]
  conv=>lhs;rw[<-List.map_id M]
  refine List.map_congr_left λz g=>?_
  obtain⟨q,rfl,_⟩:=m z g;simp
 refine⟨M.map Int.toNat,e,⟨λi=>?_,?_,λi j p o k=>?_⟩⟩
 ·constructor
  ·intro h;obtain⟨z,g,rfl⟩:=List.mem_map.1 h;obtain⟨q,rfl,f,d⟩:=m z g
   simpa using ⟨f,d⟩
  ·rintro⟨f,d⟩;refine List.mem_map.2 ⟨(i:Int),l.mem_iff.2 ((a0r _ _ _ _).2 ⟨i,f,a8h.2 ⟨a0a r i f d,d⟩,rfl⟩),by simp⟩
 ·have n:M.Nodup:=by
   refine l.nodup_iff.2 ?_;exact List.Pairwise.map a5d (λ(a b:Nat) (h:a≠b) e=>h (by unfold a5d at e;omega)) (List.Pairwise.filter _ List.nodup_range)
  rw[e] at n;exact List.Pairwise.of_map (S:=λa b=>a≠b) (λi:Nat=>(i:Int)) (λa b h e=>h (by rw[e])) n
 ·have:=s i j k (by simpa using o);unfold bo at this;simp only [List.getElem_map];rw[<-b2z M i (by simpa using p),<-b2z M j (by simpa using o)] at this;exact this
theorem b3d(x:Hp)(b:Nat)(w:World)(h:HAt w b x ar kr ac kc ag kg)(r2:R2 x)(r4:R4 x)(V:x.A.length<=8000):
  Calls prog 134 #[.pointer (some ⟨b,0,none⟩)] w λe w'=>∃v O N,Hid (e=.returned (.tuple #[.slice (some ⟨w.heap.size,0,none⟩) x.A.length x.A.length,v]))/\Sn w' w.heap.size w.heap.size x.A.length v (zs O)/\Hid (O=yC x N/\IsW x N/\∀i,i∈O->uZ x i)/\Ext w w':=by
 have c4:=h.c4;have c3:=h.c3;have lr:=h.lr;have hb:b<w.heap.size:=uL c4;have HH:=uU h;have Q2:=uU r2;have Q4:=uU r4;clear h r2 r4;obtain⟨z,be,hz⟩:=c5v x.A.length (by omega) w;have S0:=uU (Sn.V w x.A.length 4);rw[<-hz] at S0;clear hz;go_enter func134,ntmps134;go_wp2_with fail;go_loopw [5,24] (λv i wr=>∃(k:Nat) (L:List Int),k<=x.B.length/\i=.int .i64 k/\Sn wr w.heap.size w.heap.size x.A.length v L/\Hid (a5f x L/\L=zs (a6a x k))/\Ext w wr) (λ_ i _=>x.B.length-(intOf i).toNat)
 case atStart=>exact⟨0,[],Nat.zero_le _,rfl,S0,⟨(λz hz=>by cases hz),rfl⟩,(Ext.refl w).alloc _⟩
 case round=>
  clear S0 be c4 c3;obtain⟨k,L,hk,rfl,B,d,l⟩:=hrel;have y:=uU B;clear B;by_cases m:k<x.B.length
  ·have hh:=HH.ext l;obtain⟨b',o,e1,p0,p1,p2⟩:=hh.R k m;have d3:=hh.c3;rw[e1] at d3;have bi:(0:Int)<=(k:Int):=by omega
   have bd:(k:Int)<(x.B.length:Int):=by omega
   have F:=(Ext.refl wr).alloc (.cells #[iv x.B[k].k,iv x.B[k].n,iv x.B[k].a] 152);subst e1;clear hh;go_wp2_with fail;refine(a1a x x.B[k] b w.heap.size w.heap.size _ L _ (HH.ext (l.trans F)) (a2b Q2 Q4 k m) (y.ext F) (l.trans F).size V).mono ?_;rintro e w2 ⟨v',Y,rfl,I,ha,hm⟩
   have R:=uU (show Sn w2 w.heap.size w.heap.size x.A.length v' Y/\(a5f x Y/\Y=zs (a6a x (k+1)))/\Ext w w2 from
    ⟨I,⟨d.1.add ha (λe=>uZ.reg k m e),by
     have A:=uH ha;rw[d.2] at A;rw[b8v A,b1w k m]⟩,(y.ext F).mext hm (l.trans F)⟩)
   clear I ha hm F;go_wp2_with fail;go_roundw
   case rel=>exact⟨k+1,Y,by omega,by go_num,R.1,R.2.1,R.2.2⟩
   case measure=>simp [intOf];omega
  ·have bh:k=x.B.length:=by omega
   subst bh;go_wp2_with fail;refine(b3a x b _ (HH.ext l) V).mono ?_;rintro e w3 ⟨vw,M,rfl,t,⟨H,aj⟩,hq⟩;have av:=l.trans hq;obtain⟨BW,az⟩:∃n,n=wr.heap.size:=⟨_,rfl⟩;rw[<-az] at t;obtain⟨Q,r,rfl,an⟩:=t.form;have br:M.length<=8000:=by have:=H.length_eq;have:=a2z (a6q x) a5d x.A.length;unfold a5e at *;omega
   have WM:=uU (show ∀j,j<M.length->∃q:Nat,it M j=(q:Int)/\q<x.A.length/\(x.c q).st=1/\hQ (x.c q) from λj hj=>by
    obtain⟨q,S,E,e⟩:=(a0r _ _ _ _).1 (H.mem_iff.1 (a2w M j hj));exact⟨q,e.symm,S,a8h.1 E⟩)
   have WA:=uU (show ∀i,i<x.A.length->(x.c i).st=1->hQ (x.c i)->(i:Int)∈M from λi hi A W=>H.mem_iff.2 ((a0r _ _ _ _).2 ⟨i,hi,a8h.2 ⟨A,W⟩,rfl⟩));obtain⟨N,au,aq⟩:=b7n Q2 H aj;have WN:=uU (And.intro au aq);clear au aq aj;have S3:=uU (y.ext hq)
   have AP:=uU (show ∀q,(Value.slice Q M.length r).ownBlock=some q->¬(Value.ownBlock (Value.slice Q M.length r)=some w.heap.size) from λq _ e=>by
    have:=(t.own.lt _ e).1;have:=y.hb.2;omega)
   have aw:=uU (λq (e:(Value.slice Q M.length r).ownBlock=some q)=>(show ∀u:Value,Sn wr w.heap.size w.heap.size x.A.length u L->u.ownBlock≠some q from λu hu f=>by
    have:=(hu.own.lt q f).2;have:=(t.own.lt q e).1;omega))
   have ai:=uU (λq e=>uH aw q e _ y);have RW:=uU t;have HI:=uU d;clear t H hq m hk aw d y az;go_wp2_with fail;go_loopw [5,37] (λv i wx=>∃(k:Nat) (K:List Int),k<=M.length/\i=.int .i64 k/\Sn wx w.heap.size w.heap.size x.A.length v K/\Rw1 wx BW (.slice Q M.length r) M/\Hid (∀q,(Value.slice Q M.length r).ownBlock=some q->v.ownBlock≠some q)/\Hid (a5f x K/\K=zs (tE x N k))/\Ext w wx) (λ_ i _=>M.length-(intOf i).toNat)
   case atStart=>exact⟨0,L,Nat.zero_le _,rfl,S3,RW,ai,⟨HI.1,HI.2⟩,av⟩
   case round=>
    clear S3 RW ai HI l av;obtain⟨k,K,hk,rfl,B,t,ab,d,l⟩:=hrel;have y:=uU B;have RW:=uU t;by_cases m:k<M.length
    ·obtain⟨g,rfl⟩:=an (by omega);obtain⟨a1,a2,a3⟩:=t.cell k m;obtain⟨q,eq,S,E,af⟩:=uH WM k m;rw[eq] at a1;have EQ:=uU eq;have bi:(0:Int)<=(k:Int):=by omega
     have bd:(k:Int)<(M.length:Int):=by omega
     have et:tgt x ⟨2,0,(q:Int)⟩=q:=by unfold tgt zH;simp [E]
     have MY:a0y x ⟨2,0,(q:Int)⟩:=λ_=>⟨rfl,by simp,by simpa using S,(λh=>by simp [E] at h),by rw[et];exact a0q Q4 q S E af⟩
     have bc:=uU MY;have RQ:=uU (show uZ x (tgt x ⟨2,0,(q:Int)⟩) by rw[et];exact uZ.U q S E af);have ET:=uU et;have bg:=uU (show(Value.slice (some ⟨g,0,none⟩) M.length r).ownBlock≠some w.heap.size from λe=>uH AP _ rfl e);clear B t a3 eq et MY E af;go_wp2_with fail;refine(a1a x ⟨2,0,(q:Int)⟩ b w.heap.size w.heap.size _ K _ (HH.ext l) bc y l.size V).mono ?_;rintro e w2 ⟨v',Y,rfl,I,ha,hm⟩
     have R:=uU (show Sn w2 w.heap.size w.heap.size x.A.length v' Y/\Rw1 w2 BW (.slice (some ⟨g,0,none⟩) M.length r) M/\(∀q,(Value.slice (some ⟨g,0,none⟩) M.length r).ownBlock=some q->v'.ownBlock≠some q)/\(a5f x Y/\Y=zs (tE x N (k+1)))/\Ext w w2 from
      ⟨I,RW.mfr hm bg ab,c7b RW hm ab,⟨d.1.add ha (λ_=>uH RQ),by
       have A:=uH ha;rw[d.2] at A;rw[b8v A,a9n k (by have:=WN.1;rw[this] at m;simpa [zs] using m)]
       congr 2
       have W:=uH EQ;rw[WN.1,c0v (by have:=WN.1;rw[this] at m;simpa [zs] using m)] at W;have h3:=uH ET;unfold wq;rw[if_pos rfl,h3]
       congr 1;omega⟩,y.mext hm l⟩)
     clear I ha hm;go_wp2_with fail;go_roundw
     case rel=>exact⟨k+1,Y,by omega,by go_num,R.1,R.2.1,R.2.2.1,R.2.2.2.1,R.2.2.2.2⟩
     case measure=>simp [intOf];omega
    ·have G0:=uU (show a5f x K/\∃O,K=zs O/\clO x (x.A.length+1-0) 0 O=yC x N from⟨d.1,tE x N N.length,by
      have A:=d.2
      have W:k=N.length:=by
       have h3:=WN.1;have h4:M.length=N.length:=by rw[h3];simp [zs]
       omega
      rw[W] at A;exact A,rfl⟩)
     clear B t RW ab d WM WA AP an;go_wp2_with fail;go_loopw [5,10] (λv i wy=>∃(c:Nat) (J:List Int),c<=J.length/\i=.int .i64 c/\Sn wy w.heap.size w.heap.size x.A.length v J/\Hid (a5f x J/\∃O,J=zs O/\clO x (x.A.length+1-c) c O=yC x N)/\Ext w wy) (λ_ i _=>x.A.length-(intOf i).toNat)
     case atStart=>exact⟨0,K,Nat.zero_le _,rfl,y,G0,l⟩
     case round=>
      clear G0 y l;obtain⟨c,J,hc,rfl,B,G,l⟩:=hrel;have y:=uU B;obtain⟨ad,ba,rfl,bb⟩:=B.form;have bm:=B.len;by_cases m:c<J.length
      ·obtain⟨g,rfl⟩:=bb (by omega);obtain⟨a1,a2,a3⟩:=(Rw1.mk B.own).cell c m;obtain⟨j,ej,ae⟩:=G.1 _ (a2w J c m);rw[ej] at a1;have Z:=ae.good Q2 Q4;have hh:=HH.ext l;obtain⟨b',o,ap,kp,e1,C⟩:=HH.cell j Z.1;have d4:=hh.c4;rw[e1] at d4;have p7:=l.keep C.p7;have lp:=C.lp;have HP:=uU C.P;have EJ:=uU ej;have RJ:=uU ae;have GJ:=uU Z;have bo:=Z.1;have c0:(0:Int)<=(c:Int):=by omega
       have c1:(c:Int)<(J.length:Int):=by omega
       have j0:(0:Int)<=(j:Int):=by omega
       have j1:(j:Int)<(x.A.length:Int):=by omega
       clear B C hh e1 ej ae Z a3 a2;go_wp2_with fail;go_quiet (fail);go_wp2_with fail;go_loopw [5,66] (λv i wz=>∃(p:Nat) (T:List Int),p<=(x.c j).F.length/\i=.int .i64 p/\Sn wz w.heap.size w.heap.size x.A.length v T/\Hid (a5f x T/\∃O,T=zs (prO x j p O)/\c<O.length/\(∀h:c<O.length,O[c]=j)/\clO x (x.A.length+1-c) c O=yC x N)/\Ext w wz) (λ_ i _=>(x.c j).F.length-(intOf i).toNat)
       case atStart=>exact⟨0,J,Nat.zero_le _,rfl,y.ext ((Ext.refl _).drewN _),⟨G.1,by
        obtain⟨O,A,W⟩:=G.2;have h3:c<O.length:=by rw[A] at m;simpa [zs] using m
        refine⟨O,A,h3,λh=>?_,W⟩;have h4:=uH EJ;rw[A,c0v h] at h4;omega⟩,l.drewN _⟩
       case round=>
        clear y G a1 d4 p7 l;obtain⟨p,T,hp,rfl,B,d,s⟩:=hrel;have y:=uU B;have bn:=B.len;by_cases U:p<(x.c j).F.length
        ·obtain⟨b2,o2,rfl,q0,q1,q2,q3,q4,q5⟩:=uH HP p U;have e0:=s.keep q0;have e1:=s.keep q1;have e2:=s.keep q2;have e3:=s.keep q3;have e4:=s.keep q4;have e5:=s.keep q5;have bl:b2<wr.heap.size:=uL e0;clear q0 q1 q2 q3 q4 q5 B;have bk:(0:Int)<=(p:Int):=by omega
         have bp:(p:Int)<((x.c j).F.length:Int):=by omega
         have F:=(Ext.refl wr).alloc (.cells #[.int .i64 ((x.c j).p p).key.k,.int .i64 ((x.c j).p p).key.n,.int .i64 ((x.c j).p p).key.a,.int .i64 ((x.c j).p p).val.k,.int .i64 ((x.c j).p p).val.n,.int .i64 ((x.c j).p p).val.a] 154);have am:=uU (a0j Q2 Q4 j p GJ U);have wW:Ext w wr:=s;go_wp2_with fail;refine(a1a x ((x.c j).p p).key b w.heap.size w.heap.size _ T _ (HH.ext (wW.trans F)) am.1 (y.ext F) (wW.trans F).size V).mono ?_;rintro e w5 ⟨v5,T5,rfl,ax,al,X⟩;have x5:Ext w w5:=(y.ext F).mext X (wW.trans F);have bj:=(y.ext F).own.lt;have u:=λ(o:Nat) (v:Value) (hc:(wr.alloc (.cells #[.int .i64 ((x.c j).p p).key.k,.int .i64 ((x.c j).p p).key.n,.int .i64 ((x.c j).p p).key.a,.int .i64 ((x.c j).p p).val.k,.int .i64 ((x.c j).p p).val.n,.int .i64 ((x.c j).p p).val.a] 154)).cell? ⟨wr.heap.size,o,none⟩=some v)=>(World.cell?_of_block (w':=w5) (a:=⟨wr.heap.size,o,none⟩) (X.block wr.heap.size (by simp) (by have:=y.hb.2;omega) (λf=>by have:=(y.own.lt _ f).2;omega))).trans hc
         have u3:=u 3 _ (by simp [go_sem];rfl);have u4:=u 4 _ (by simp [go_sem];rfl);have u5:=u 5 _ (by simp [go_sem];rfl);have bq:wr.heap.size<w5.heap.size:=by have:=X.size;simp at this;omega
         have S5:=uU ax;have A5:=uU al;clear u X ax al e0 e1 e2 e3 e4 e5 bj F;go_wp2_with fail;refine(a1a x ((x.c j).p p).val b w.heap.size w.heap.size _ T5 _ (HH.ext x5) am.2 S5 x5.size V).mono ?_;rintro e w6 ⟨v6,T6,rfl,ak,aa,ay⟩
         have R:=uU (show Sn w6 w.heap.size w.heap.size x.A.length v6 T6/\(a5f x T6/\∃O,T6=zs (prO x j (p+1) O)/\c<O.length/\(∀h:c<O.length,O[c]=j)/\clO x (x.A.length+1-c) c O=yC x N)/\Ext w w6 by
          obtain⟨i1,O,i2,i3,i4,i5⟩:=d;have h5:=uH A5;rw[i2] at h5;have f5:=b8v h5;have h6:=uH aa;rw[f5] at h6;have f6:=b8v h6;exact⟨ak,⟨(i1.add A5 (λe=>uZ.key j p RJ U e)).add aa (λe=>uZ.val j p RJ U e),O,by rw[f6,b5a p U],i3,i4,i5⟩,S5.mext ay x5⟩)
         clear ak aa ay;go_wp2_with fail;go_roundw
         case rel=>exact⟨p+1,T6,by omega,by go_num,R.1,R.2.1,R.2.2⟩
         case measure=>simp [intOf];omega
        ·have ah:p=(x.c j).F.length:=by omega
         have R:=uU (show(a5f x T/\∃O,T=zs O/\clO x (x.A.length+1-(c+1)) (c+1) O=yC x N)/\c+1<=T.length by
          obtain⟨i1,O,i2,i3,i4,i5⟩:=d;rw[ah] at i2;have l1:=b8w x j (x.c j).F.length O;refine⟨⟨i1,_,i2,?_⟩,by rw[i2];simp [zs];omega⟩;rw[<-i5,c0x (x:=x) (f:=x.A.length+1-(c+1)) i3 (i4 i3),show x.A.length+1-(c+1)+1=x.A.length+1-c by omega])
         clear B ah;go_wp2_with fail;go_roundw
         case rel=>exact⟨c+1,T,R.2,by go_num,y,R.1,s⟩
         case measure=>simp [intOf];omega
      ·have ao:c=J.length:=by omega
       obtain⟨O,A,W⟩:=G.2
       have D:=uU (show O=yC x N/\IsW x N/\∀i,i∈O->uZ x i from⟨by rw[<-W];exact(c5w (by rw[ao,A];simp [zs])).symm,WN.2,λi hi=>by
        obtain⟨q,e,hq⟩:=G.1 (i:Int) (by rw[A];exact List.mem_map.2 ⟨i,hi,rfl⟩);have:i=q:=by omega
        rw[this];exact hq⟩)
       have bf:=uU (show Sn _ w.heap.size w.heap.size x.A.length (Value.slice ad J.length ba) (zs O) by have h5:=uH y;generalize J.length=jl at h5 ⊢;rw[A] at h5;exact h5);clear B ao A W;go_wp2_with fail;go_ret2;exact⟨_,O,N,rfl,bf,D,l⟩
def tX(x:Hp)(H:Nat->Bool)(y:Wd):Bool:=(eZ x y).k == 2 && !H (eZ x y).a.toNat
def wkB(c:Cl):Bool:=c.T == 1 || c.T == 3
def wvB(c:Cl):Bool:=c.T == 2 || c.T == 3
def goB(x:Hp)(H:Nat->Bool)(c:Cl)(p:Pr):Bool:=(wkB c && tX x H p.key) || (wvB c && tX x H p.val)
def a6h(x:Hp)(H:Nat->Bool)(c:Cl)(l:List Pr):List Pr:=l.filter (λp=>!goB x H c p)
def tK(x:Hp)(H:Nat->Bool)(c:Cl)(l:List Pr):Nat:=(l.filter (λp=>goB x H c p)).length
theorem a8o(x:Hp)(H:Nat->Bool)(c:Cl)(l:List Pr):(a6h x H c l).length+tK x H c l=l.length:=by
 unfold a6h tK
 induction l with
 | nil=>rfl
 | cons p l ih=>
  cases h:goB x H c p <;> simp [h] <;> omega
def cN(x:Hp):Int:=if x.E=2/\0<x.D.length then x.D.getD 0 0 else if x.E=5/\x.I<x.A.length then x.I else -1
def b9k(x:Hp)(H:Nat->Bool)(c:Cl):Cl:={ c with F:=a6h x H c c.F }
def a6i(x:Hp)(H:Nat->Bool)(i:Nat)(s:Int):Int:=if cN x=(i:Int) then s-tK x H (x.c i) ((x.c i).F.take s.toNat) else s
def cD(x:Hp)(H:Nat->Bool):Nat->Hp
 | 0=>x
 | k+1=>if H k=true then { cD x H k with A:=(cD x H k).A.set k (b9k x H (x.c k)),K:=(cD x H k).K-tK x H (x.c k) (x.c k).F,sub:=a6i x H k (cD x H k).sub } else cD x H k
def a1o(x:Hp)(H:Nat->Bool):Nat->Nat
 | 0=>0
 | k+1=>if H k=true then a1o x H k+tK x H (x.c k) (x.c k).F else a1o x H k
def a8x(x:Hp)(H:Nat->Bool)(i:Nat):Bool:=!H i && (x.c i).U == 1
def b7d(c:Cl):Cl:={ c with U:=2 }
def qK(x z:Hp)(H:Nat->Bool):Nat->Hp
 | 0=>z
 | k+1=>if a8x x H k=true then { qK x z H k with A:=(qK x z H k).A.set k (b7d (x.c k)) } else qK x z H k
def a9u(x:Hp)(H:Nat->Bool):Nat->Nat
 | 0=>0
 | k+1=>if a8x x H k=true then a9u x H k+1 else a9u x H k
def a4t(x:Hp)(H:Nat->Bool):Hp:=qK x (cD x H x.A.length) H x.A.length
def stlC(x:Hp)(H:Nat->Bool)(i:Nat):Cl:=if H i=true then b9k x H (x.c i) else if (x.c i).U=1 then b7d (x.c i) else x.c i
theorem a2k(x:Hp)(H:Nat->Bool):∀k,(cD x H k).A.length=x.A.length
 | 0=>rfl
 | k+1=>by
  unfold cD
  split
  ·simp [a2k x H k]
  ·exact a2k x H k
theorem b0y(x:Hp)(H:Nat->Bool):∀k,k<=x.A.length->∀q,(cD x H k).c q=if q<k/\H q=true then b9k x H (x.c q) else x.c q
 | 0,_,q=>by rw[if_neg (by omega)];rfl
 | k+1,hk,q=>by
  have ih:=b0y x H k (by omega) q;unfold cD;by_cases h:H k=true
  ·grind [Hp.c_set,cD,b9k,Hp.c,a2k,uX.A,QFr.A,qC.set,Nf1.set,tK]
  ·grind [cD,Hp.c,b9k]
theorem b7e[Inhabited uQ](h:GAt B w g x ar kr ac kc vg br bc pb pa pk role):
  Calls prog 218 #[pP g] w λe w'=>e=.returned (iv (cN x))/\Ext w w':=by
 obtain⟨s,t,d⟩:=h.gr.form;subst d;have q:=h.bx.2.2.2.2.1;have n:=h.bx.2.2.2.2.2.1;have r:=h.bx.2.2.2.2.2.2.1;have o:=h.bx.2.2.2.2.2.2.2.2.1;have f:=uU (λi k=>h.gr.at i k);cases b:(x.E == 2)
 ·cases c:(x.E == 5)
  ·have E:=uU (show cN x = -1 by unfold cN;rw[if_neg (λh=>by simp [h.1] at b),if_neg (λh=>by simp [h.1] at c)]);go_enter func218,ntmps218;go_wp2_with fail;go_quiet (fail);go_wp2;go_ret;exact⟨by rw[uH E];rfl,by repeat (first | exact Ext.refl _ | refine Ext.drewN ?_ _ | refine Ext.drew ?_)⟩
  ·by_cases a:x.I<x.A.length
   ·have E:=uU (show cN x=x.I by unfold cN;rw[if_neg (λh=>by simp [h.1] at b),if_pos ⟨by simpa using c,a⟩]);go_enter func218,ntmps218;go_wp2_with fail;go_quiet (fail);go_wp2;go_ret;exact⟨by rw[uH E];rfl,by repeat (first | exact Ext.refl _ | refine Ext.drewN ?_ _ | refine Ext.drew ?_)⟩
   ·have E:=uU (show cN x = -1 by unfold cN;rw[if_neg (λh=>by simp [h.1] at b),if_neg (λh=>a h.2)]);go_enter func218,ntmps218;go_wp2_with fail;go_quiet (fail);go_wp2;go_ret;exact⟨by rw[uH E];rfl,by repeat (first | exact Ext.refl _ | refine Ext.drewN ?_ _ | refine Ext.drew ?_)⟩
 ·have c:(x.E == 5)=false:=by simp at b ⊢;omega
  by_cases a:0<x.D.length
  ·obtain⟨l,p,rfl,j,_⟩:=uH f 0 a;have E:=uU (show cN x=x.D[0] by unfold cN;rw[if_pos ⟨by simpa using b,a⟩];simp [a]);have m:(x.D.length:Int) > 0:=by omega
   rw[Nat.add_zero] at j;go_enter func218,ntmps218;go_wp2;go_ret;exact⟨by rw[uH E];rfl,by repeat (first | exact Ext.refl _ | refine Ext.drewN ?_ _ | refine Ext.drew ?_)⟩
  ·have E:=uU (show cN x = -1 by unfold cN;rw[if_neg (λh=>a h.2),if_neg (λh=>by simp [h.1] at c)])
   go_enter func218,ntmps218;go_wp2_with fail;go_quiet (fail);go_wp2;go_ret;exact⟨by rw[uH E];rfl,by repeat (first | exact Ext.refl _ | refine Ext.drewN ?_ _ | refine Ext.drew ?_)⟩
theorem b8x{o:Option Nat}(h:i∈O):i∈ad O o:=by
 unfold ad
 split
 ·exact h
 ·grind [ad]
theorem c3z:i∈ad O (some i):=by
 unfold ad;simp only
 split
 ·assumption
 ·simp
theorem b5b{o:Option Nat}(h:i∈ad O o):i∈O\/o=some i:=by
 unfold ad at h
 split at h
 ·exact .inl h
 ·grind [ad]
theorem c5x{o:Option Nat}(h:O.Nodup):(ad O o).Nodup:=by
 unfold ad
 split
 ·exact h
 ·grind [ad]
theorem b8y(O:List Nat)(o:Option Nat):∃R,ad O o=O++R:=by
 unfold ad
 split
 ·exact⟨[],by simp⟩
 ·split
  ·exact⟨[],by simp⟩
  ·exact⟨_,rfl⟩
theorem b4a(h:wq x y=some i):y.k=2/\i=tgt x y:=by grind [wq,tgt]
theorem d0k(h:y.k=2):wq x y=some (tgt x y):=by unfold wq;rw[if_pos h]
def PIn(x:Hp)(j p:Nat)(O:List Nat):Prop:=∀q,q<p->q<(x.c j).F.length->(((x.c j).p q).key.k=2->tgt x ((x.c j).p q).key∈O)/\(((x.c j).p q).val.k=2->tgt x ((x.c j).p q).val∈O)
theorem PIn.mono{O':List Nat}(h:PIn x j p O)(s:∀i,i∈O->i∈O'):PIn x j p O':=by grind [PIn,Cl.p]
theorem c4a{x:Hp}{j:Nat}{O:List Nat}(o:uZ x j)(k:∀i,i∈O->uZ x i)(g:O.Nodup)(p:Nat)(r:p<=(x.c j).F.length):(∀i,i∈prO x j p O->uZ x i)/\(prO x j p O).Nodup/\PIn x j p (prO x j p O)/\∃R,prO x j p O=O++R:=by
 induction p with
 | zero=>exact⟨k,g,λq h=>by omega,[],by simp [prO]⟩
 | succ p ih=>
  obtain⟨a,b,c,R,d⟩:=ih (by omega);rw[b5a p (by omega)];refine⟨λi l=>?_,c5x (c5x b),λq n m=>?_,?_⟩
  ·grind [b5b,b4a,uZ,uZ.key,Cl.p,uZ.val,Hp.c,prO,PIn]
  ·grind [Cl.p,b8x,d0k,c3z,Hp.c,uZ,prO,PIn]
  ·obtain⟨R1,e⟩:=b8y (prO x j p O) (wq x ((x.c j).p p).key);obtain⟨R2,f⟩:=b8y (ad (prO x j p O) (wq x ((x.c j).p p).key)) (wq x ((x.c j).p p).val);exact⟨R++R1++R2,by rw[f,e,d];simp⟩
theorem a6b(b:O.Nodup)(h:∀i,i∈O->i<n):O.length<=n:=by
 have:=List.Nodup.length_le_of_subset b (λz a=>List.mem_range.2 (h z a))
 simpa using this
structure OrdIs(x:Hp)(O:List Nat):Prop where
 r:∀i,i∈O->uZ x i
 nd:O.Nodup
 g:∀k (h:k<x.B.length),x.B[k].k=2->tgt x x.B[k]∈O
 s:∀i,i<x.A.length->hQ (x.c i)->i∈O
 p:∀j,j∈O->PIn x j (x.c j).F.length O
theorem d0n{x:Hp}(hr:∀i,uZ x i->i<x.A.length):∀(f c:Nat) (O:List Nat),x.A.length+1<=f+c->c<=O.length->(∀i,i∈O->uZ x i)->O.Nodup->(∀q (h:q<O.length),q<c->PIn x O[q] (x.c O[q]).F.length O)->
  (∀i,i∈clO x f c O->uZ x i)/\(clO x f c O).Nodup/\(∀j,j∈clO x f c O->PIn x j (x.c j).F.length (clO x f c O))/\(∀i,i∈O->i∈clO x f c O)
 | 0,c,O,hf,hc,ho,hn,_=>by
  have:=a6b hn (λi hi=>hr i (ho i hi));omega
 | f+1,c,O,hf,hc,ho,hn,hp=>by
  by_cases h:c<O.length
  ·have hj:=ho O[c] (List.getElem_mem h);obtain⟨a,b,d,R,e⟩:=c4a hj ho hn (x.c O[c]).F.length (Nat.le_refl _);have hl:=b8w x O[c] (x.c O[c]).F.length O;have sub:∀i,i∈O->i∈prO x O[c] (x.c O[c]).F.length O:=λi hi=>by rw[e];exact List.mem_append_left _ hi
   have ih:=d0n hr f (c+1) (prO x O[c] (x.c O[c]).F.length O) (by omega) (by omega) a b (λq hq hqc=>by
    have hq2:q<O.length:=by omega
    have eq:(prO x O[c] (x.c O[c]).F.length O)[q]=O[q]:=by simp only [e];exact List.getElem_append_left hq2
    rw[eq];by_cases z:q=c
    ·subst z;exact d
    ·exact(hp q hq2 (by omega)).mono sub)
   simp only [clO,h,dite_true];exact⟨ih.1,ih.2.1,ih.2.2.1,λi hi=>ih.2.2.2 i (sub i hi)⟩
  ·simp only [clO,h,dite_false];refine⟨ho,hn,λj hj=>?_,λi hi=>hi⟩;obtain⟨q,hq,e⟩:=List.getElem_of_mem hj;have:=hp q hq (by omega);rw[e] at this;exact this
theorem regO_is{x:Hp}(k:Nat)(g:k<=x.B.length):(∀i,i∈a6a x k->uZ x i)/\(a6a x k).Nodup/\∀j (h:j<x.B.length),j<k->x.B[j].k=2->tgt x x.B[j]∈a6a x k:=by
 induction k with
 | zero=>exact⟨λi d=>by simp [a6a] at d,by simp [a6a],λj _ h=>by omega⟩
 | succ k ih=>
  obtain⟨a,b,c⟩:=ih (by omega);rw[b1w k (by omega)];refine⟨λi d=>?_,c5x b,λj h f e=>?_⟩
  ·grind [b5b,b4a,uZ,uZ.reg,a6a,tgt]
  ·grind [d0k,c3z,b8x,Hp.c,a6a,uZ,tgt]
theorem b0j{x:Hp}(l:R2 x){N:List Nat}(g:IsW x N)(k:Nat)(o:k<=N.length):(∀i,i∈tE x N k->uZ x i)/\(tE x N k).Nodup/\(∀j (h:j<x.B.length),x.B[j].k=2->tgt x x.B[j]∈tE x N k)/\∀j (h:j<N.length),j<k->N[j]∈tE x N k:=by
 induction k with
 | zero=>
  obtain⟨a,b,c⟩:=regO_is (x:=x) x.B.length (Nat.le_refl _);exact⟨a,b,λj h e=>c j h h e,λj _ h=>by omega⟩
 | succ k ih=>
  obtain⟨a,b,c,d⟩:=ih (by omega);rw[a9n k (by omega)];refine⟨λi f=>?_,c5x b,λj h e=>b8x (c j h e),λj h n=>?_⟩
  ·rcases b5b f with q | q
   ·exact a i q
   ·cases q;have:=(g.m N[k]).1 (List.getElem_mem (by omega));exact uZ.U _ this.1 (a0a l _ this.1 this.2) this.2
  ·grind [c3z,b8x,R2,tE,uZ,tgt]
theorem b5c(o:R2 x)(s:R4 x)(n:IsW x N):OrdIs x (yC x N):=by
 obtain⟨a,b,c,d⟩:=b0j o n N.length (Nat.le_refl _);obtain⟨e,f,g,h⟩:=d0n (λi j=>(j.good o s).1) (x.A.length+1) 0 (tE x N N.length) (by omega) (Nat.zero_le _) a b (λq _ h=>by omega);refine⟨e,f,λk p z=>h _ (c k p z),λi j r=>?_,g⟩;obtain⟨q,l,z⟩:=List.getElem_of_mem ((n.m i).2 ⟨j,r⟩);have:=h _ (d q l l);rw[z] at this;exact this
theorem IsW.uniq(d:R2 x){N':List Nat}(h:IsW x N)(k:IsW x N'):N=N':=by
 refine List.Perm.eq_of_pairwise (le:=λa b=>(x.c a).born<=(x.c b).born) (λa b g j o r=>?_) (List.pairwise_iff_getElem.2 h.s) (List.pairwise_iff_getElem.2 k.s) ((List.perm_ext_iff_of_nodup h.nd k.nd).2 (λi=>by rw[h.m,k.m]));have e:=(h.m a).1 g;have f:=(k.m b).1 j;have t:=a0a d a e.1 e.2;have p:=a0a d b f.1 f.2;have l:(x.c a).to=0:=by rcases d.1 a e.1 with z | z | z;omega;omega;exact z.2.2.2.2.2.2.1
 have n:(x.c b).to=0:=by rcases d.1 b f.1 with z | z | z;omega;omega;exact z.2.2.2.2.2.2.1
 rcases Nat.lt_trichotomy a b with q | q | q
 ·exact(d.2 b f.1 (by omega) a q ⟨by omega,by omega,by omega⟩).elim
 ·exact q
 ·exact(d.2 a e.1 (by omega) b q ⟨by omega,by omega,by omega⟩).elim
theorem c0y(x:Hp)(b:Nat)(w:World)(h:HAt w b x ar kr ac kc ag kg)(r2:R2 x)(r4:R4 x)(hn8:x.A.length<=8000):
  Calls prog 134 #[.pointer (some ⟨b,0,none⟩)] w λe w'=>∃v L,Hid (e=.returned (.tuple #[.slice (some ⟨w.heap.size,0,none⟩) x.A.length x.A.length,v]))/\Sn w' w.heap.size w.heap.size x.A.length v L/\Hid (∀i:Nat,(i:Int)∈L↔uZ x i)/\Ext w w':=by
 refine(b3d x b w h r2 r4 hn8).mono ?_;rintro e w' ⟨v,O,N,he,hs,ho,hx⟩;exact⟨v,zs O,he,hs,λi=>⟨λq=>ho.2.2 i (b8u.1 q),λq=>b8u.2 (by rw[ho.1];have o:=b5c r2 r4 ho.2.1;exact q (·∈yC x N) o.g (λi hi _=>o.s i hi) (λj p hj hp=>(o.p j hj p hp hp).1) (λj p hj hp=>(o.p j hj p hp hp).2))⟩,hx⟩
theorem GAt.prow[Inhabited uQ](h:GAt B w g x ar kr ac kc vg br bc pb pa pk role)(i:Nat)(hi:i<x.A.length)(r0:0<x.B.length)(L:List Pr)(G:Nat)(S:Option Addr)(K:Nat)(o:uX (λq=>q=bc) w w')(M:Nf1 bc w')(c7:w'.cell? (aA bc (i*8+7))=some (.slice S L.length K))(co:∀j,j≠i*8+7->w'.cell? (aA bc j)=w.cell? (aA bc j))
  (hp:∀k,k<L.length->qN w' G (k*6) (L.getD k Pr0)) (aa:L.length<=K) (R:0<K->S=some (aA G 0)/\Nfp G K w'/\w.heap.size<=G/\B<=G) :
  GAt B w' g { x with A:=x.A.set i { x.c i with F:=L } } ar kr ac kc vg br bc (λq=>if q=i then G else pb q) (λq=>if q=i then S else pa q) (λq=>if q=i then K else pk q) (λd=>if w.heap.size<=d then 6+i else role d):=by
 have E:0<x.A.length:=by omega
 have u:∀q,q<w.heap.size->role q≠3->w'.heap[q]?=w.heap[q]?:=λq b t=>o.block q b (λe=>t (by rw[e];exact h.sp.c E))
 have l:∀q,q<w.heap.size->(if w.heap.size<=q then 6+i else role q)=role q:=λq b=>if_neg (by omega)
 have n:({ x with A:=x.A.set i { x.c i with F:=L } }:Hp).A.length=x.A.length:=by simp
 have U:=Hp.c_set x i { x.c i with F:=L } hi;have A:∀q,q≠i->(({ x with A:=x.A.set i { x.c i with F:=L } }:Hp).c q)=x.c q:=λq e=>by rw[U q,if_neg e]
 have I:(({ x with A:=x.A.set i { x.c i with F:=L } }:Hp).c i)={ x.c i with F:=L }:=by rw[U i,if_pos rfl]
 have X:=u g h.nf.1 (by rw[h.sp.g];omega);have Y:∀q,q<x.A.length->0<pk q->w'.heap[pb q]?=w.heap[pb q]?:=λq b n=>u (pb q) (h.rw.pl q b n).2.1.1 (by rw[h.sp.p q b n];omega)
 have W:0<x.B.length->w'.heap[br]?=w.heap[br]?:=λt=>u br (h.rw.nr t).1.1 (by rw[h.sp.r t];omega)
 refine⟨?_,uJ h.nf X o.size,h.lo,h.ha,λ_=>h.hc E,⟨λj D=>?_,λq b=>?_,λq b=>?_,λq b j D=>?_,λq b f=>?_,λt=>⟨uJ (h.rw.nr t).1 (W t) o.size,(h.rw.nr t).2⟩,λ_=>⟨M,(h.rw.nc E).2⟩,λ_=>h.rw.d E,λq N b C J z F=>?_,λq b=>?_⟩,h.gr.block (λq b=>u q (h.gr.lt q b).2 (by rw[h.sp.y q b];omega)),⟨?_,λt=>?_,λ_=>?_,λq b=>?_,λq b f=>?_⟩,by rw[n];exact h.kl,h.pr.of (λq b z=>u q b (by rw[z];omega)) (λq b z=>by(try dsimp only);rw[if_neg (by omega)];exact z),λT=>(h.cc T).A (l bc (h.cc T).nf.1) M (λj v _ hv=>?_)⟩
 ·rw[n];exact h.bx.block X
 ·exact(h.rw.r j D).of λm _=>World.cell?_of_block (a:=(aA br _)) (W (by have:j<x.B.length:=D;omega))
 ·rw[n] at b;have H:S7 w' bc (q*8) (x.c q):=(h.rw.s q b).of λm hm=>co _ (by omega)
  by_cases e:q=i
  ·subst e;rw[I];exact H
  ·rw[A q e];exact H
 ·rw[n] at b;by_cases e:q=i
  ·grind [Nf1,qN,Pr0,Hp.c]
  ·rw[A q e];simp only [if_neg e];rw[co _ (by omega)];exact h.rw.p7 q b
 ·rw[n] at b;by_cases e:q=i
  ·subst e;rw[I] at D ⊢;simp only [if_true];exact hp j D
  ·rw[A q e] at D ⊢;simp only [if_neg e];exact(h.rw.p q b j D).of λm _=>World.cell?_of_block (a:=(aA (pb q) _)) (Y q b (h.rw.pw b (by omega)))
 ·rw[n] at b;by_cases e:q=i
  ·subst e;simp only [if_true] at f ⊢;obtain⟨Q,P,V,O⟩:=R f;refine⟨Q,P,⟨λe=>?_,λe=>?_⟩,O⟩
   ·have:=(h.rw.nr r0).1.1;omega
   ·have:=(h.rw.nc E).1.1;omega
  ·simp only [if_neg e] at f ⊢;obtain⟨Q,P,V,O⟩:=h.rw.pl q b f;exact⟨Q,a0g P (Y q b f) o.size,V,O⟩
 ·rw[n] at b C;by_cases e:q=i
  ·subst e;have e':N≠q:=λe=>J e.symm
   simp only [if_true,if_neg e'] at z F ⊢;have:=(h.rw.pl N C F).2.1.1;have:=(R z).2.2.1;omega
  ·by_cases Z:N=i
   ·subst Z;simp only [if_true,if_neg e] at z F ⊢;have:=(h.rw.pl q b z).2.1.1;have:=(R F).2.2.1;omega
   ·simp only [if_neg e,if_neg Z] at z F ⊢;exact h.rw.dp q N b C J z F
 ·rw[n] at b;by_cases e:q=i
  ·grind [Nf1,qN,Pr0,Hp.c]
  ·rw[A q e];simp only [if_neg e];exact h.rw.kp q b
 ·rw[l g h.nf.1];exact h.sp.g
 ·rw[l br (h.rw.nr t).1.1];exact h.sp.r t
 ·rw[l bc (h.rw.nc E).1.1];exact h.sp.c E
 ·rw[l q (h.gr.lt q b).2];exact h.sp.y q b
 ·rw[n] at b;by_cases e:q=i
  ·grind [Grw.at,Nf1,qN,Pr0,Hp.c]
  ·simp only [if_neg e] at f ⊢;rw[l (pb q) (h.rw.pl q b f).2.1.1];exact h.sp.p q b f
 ·grind [Nf1,qN,Pr0,Hp.c]
theorem c4r[Inhabited uQ](h:GAt B w g x ar kr ac kc vg br bc pb pa pk role)(H:Nat->Bool)(c:Nat)(C:∀j,j<x.A.length->w.cell? (aA c j)=some (.bool (H j)))(y:Wd)(G:uW y x.A.length)(A:(eZ x y).k=2->0<=(eZ x y).a/\(eZ x y).a<x.A.length):
  Calls prog 148 #[pP g,sS c x.A.length x.A.length,y.v] w λe w'=>e=.returned (.bool (tX x H y))/\Ext w w':=by
 have l:=(Ext.refl w).alloc (.cells #[iv y.k,iv y.n,iv y.a] 152);have o:=uU (a5m y _ (h.ext l) G);have D:=uU (show ∀W,Ext w W->∀j,j<x.A.length->W.cell? (aA c j)=some (.bool (H j)) from λW e j i=>e.keep (C j i));have m:=uU l;obtain⟨r,b⟩:∃r,r=eZ x y:=⟨_,rfl⟩;have s:=uU (show tX x H y=(r.k == 2 && !H r.a.toNat) by unfold tX;rw[b]);rw[<-b] at o A;clear h C l b;go_enter func148,ntmps148;go_wp2_with fail;refine o.mono ?_;rintro e t ⟨rfl,F⟩;have d:=uU (m.trans F);cases q:(r.k == 2)
 ·have E:=uU (show tX x H y=false by rw[uH s,q];rfl);go_wp2_with fail;go_ret;exact⟨by rw[uH E];rfl,by repeat (first | exact d | refine Ext.drewN ?_ _ | refine Ext.drew ?_ | refine Ext.alloc ?_ _)⟩
 ·obtain⟨K,L⟩:=A (by simpa using q);obtain⟨j,i⟩:∃j:Nat,r.a=(j:Int):=⟨r.a.toNat,by omega⟩;have f:j<x.A.length:=by omega
  have u:=uH D t d j f;have J:(0:Int)<=(j:Int):=by omega
  have j1:(j:Int)<(x.A.length:Int):=by omega
  have I:c<t.heap.size:=uL u;have E:=uU (show tX x H y = !H j by rw[uH s,q,i];rfl);cases z:H j
  all_goals
   rw[z] at u;have p:=uU E;rw[z] at p;go_wp2_with fail;go_ret;exact⟨by rw[uH p];rfl,by repeat (first | exact d | refine Ext.drewN ?_ _ | refine Ext.drew ?_ | refine Ext.alloc ?_ _)⟩
theorem a8p(n:Int)(a:-4000000<=n)(b:n<=4000000):wrap64 n=n:=by unfold wrap64;omega
def b0z(x:Hp)(i k:Nat):Hp:={ x with A:=x.A.set i { x.c i with F:=(x.c i).F.eraseIdx k },K:=x.K-1,sub:=if (k:Int)<x.sub/\cN x=(i:Int) then x.sub-1 else x.sub }
theorem b6a(l:List Pr)(k j:Nat)(h:j<l.length):(l.take (j+1)).eraseIdx k=if j=k then l.take j else (l.take j).eraseIdx k++[l[j]]:=by
 rw[List.take_succ_eq_append_getElem h];have a:(l.take j).length=j:=by simp;omega
 by_cases e:j=k
 ·rw[if_pos e,List.eraseIdx_append_of_length_le (by omega),a,show k-j=0 by omega];simp
 ·rw[if_neg e];rcases Nat.lt_or_ge k j with q | q
  ·grind
  ·rw[List.eraseIdx_append_of_length_le (by omega),a,List.eraseIdx_of_length_le (l:=l.take j) (by omega)]
   congr 1
   rw[List.eraseIdx_of_length_le];simp;omega
theorem cut_no(h:Hid (w.ownsRow B 154 6 v ((l.take j).eraseIdx k).length (((l.take j).eraseIdx k).flatMap fP)))(a:j<l.length)(e:j=k):Hid (w.ownsRow B 154 6 v ((l.take (j+1)).eraseIdx k).length (((l.take (j+1)).eraseIdx k).flatMap fP)):=by grind [fP,b6a,Grw.at]
theorem cut_all(h:Hid (w.ownsRow B 154 6 v ((l.take j).eraseIdx k).length (((l.take j).eraseIdx k).flatMap fP)))(a:l.length<=j):Hid (w.ownsRow B 154 6 v (l.eraseIdx k).length ((l.eraseIdx k).flatMap fP)):=by
 rw[List.take_of_length_le a] at h;exact h
theorem c7v{l:List Value}(h:Hid (w.ownsRow B 154 6 v n l))(e:Ext w w'):Hid (w'.ownsRow B 154 6 v n l):=uN h (λq a=>e.block q (h.lt q a).2)
def GK[Inhabited uQ](B:Nat)(w:World)(g:Nat)(x:Hp)(ar:Option Addr)(kr:Nat)(ac:Option Addr)(kc:Nat)(vg:Value)(br bc:Nat):Prop:=∃pb pa pk role,GAt B w g x ar kr ac kc vg br bc pb pa pk role
theorem GK.ext[Inhabited uQ](h:GK B w g x ar kr ac kc vg br bc)(e:Ext w w'):GK B w' g x ar kr ac kc vg br bc:=let ⟨pb,pa,pk,role,h⟩:=h;⟨pb,pa,pk,role,h.ext e⟩
theorem GK.ok[Inhabited uQ](h:GK B w g x ar kr ac kc vg br bc):GOk B w g x:=by grind [GK,Snd.ok,GOk]
theorem GK.set1[Inhabited uQ](h:GK B w g x ar kr ac kc vg br bc)(v:Int):GK B (w.setCell (aA g 1) (iv v)) g { x with K:=v } ar kr ac kc vg br bc:=let ⟨_,_,_,_,h⟩:=h;⟨_,_,_,_,h.boxed (x':={ x with K:=v }) (uX.setCell (S:=λq=>q=g) (uX.refl _ w) (p:=(aA g 1)) rfl _) (h.nf.set _ _) rfl rfl rfl (h.bx.set1 v)⟩
theorem GK.set7[Inhabited uQ](h:GK B w g x ar kr ac kc vg br bc)(v:Int):GK B (w.setCell (aA g 7) (iv v)) g { x with sub:=v } ar kr ac kc vg br bc:=let ⟨_,_,_,_,h⟩:=h;⟨_,_,_,_,h.boxed (x':={ x with sub:=v }) (uX.setCell (S:=λq=>q=g) (uX.refl _ w) (p:=(aA g 7)) rfl _) (h.nf.set _ _) rfl rfl rfl (h.bx.set7 v)⟩
def Fr2(g bc:Nat)(w w':World):Prop:=w.heap.size<=w'.heap.size/\∀q,q<w.heap.size->q≠g->q≠bc->w'.heap[q]?=w.heap[q]?
theorem Fr2.ext{w2:World}(h:Fr2 g bc w w1)(e:Ext w1 w2):Fr2 g bc w w2:=⟨Nat.le_trans h.1 e.size,λq a b c=>(e.block q (Nat.lt_of_lt_of_le a h.1)).trans (h.2 q a b c)⟩
theorem Fr2.of(e:Ext w w1):Fr2 g bc w w1:=⟨e.size,λq a _ _=>e.block q a⟩
theorem Fr2.set(h:Fr2 g bc w w1)(p:Addr)(d:p.block=g\/p.block=bc)(u:Value):Fr2 g bc w (w1.setCell p u):=⟨by have:=h.1;simpa [World.setCell] using this,λq c b a=>(Below.heap_setCell _ _ _ _ (by rcases d with e | e <;> rw[e] <;> assumption)).trans (h.2 q c b a)⟩
theorem d1d{T:TypeId}{xs:List Value}(h:w.ownsRow B T c v n xs):∃va vq,v=.slice va n vq:=⟨_,_,(a1d h).1⟩
theorem c2c[Inhabited uQ]{wr:World}(h:GAt B w g x ar kr ac kc vg br bc pb pa pk role)(i:Nat)(C:i<x.A.length)(Q:0<x.B.length)(L:List Pr)(n:Option Addr)(l:Nat)(e:Ext w wr)(r:wr.ownsRow w.heap.size 154 6 (.slice n L.length l) L.length (L.flatMap fP)):
  GK B (wr.setCell (aA bc (i*8+7)) (.slice n L.length l)) g { x with A:=x.A.set i { x.c i with F:=L } } ar kr ac kc vg br bc:=by
 have P:0<x.A.length:=by omega
 have u:B<=w.heap.size:=Nat.le_trans h.lo (Nat.le_of_lt h.nf.1);have d:=(h.rw.nc P).1;obtain⟨ad,D,t,N,G⟩:=a3u (f:=fP) (λ_=>rfl) r
 injection t with t _ M
 subst t M
 have A:∀b,n=some (aA b 0)->w.heap.size<=b/\b<wr.heap.size/\b≠bc:=λb I=>by
  have:=r.lt b (by rw[I];rfl);have:=d.1;omega
 have K:(wr.setCell (aA bc (i*8+7)) (.slice n L.length l)).cell? (aA bc (i*8+7))=some (.slice n L.length l):=World.cell?_setCell_same _ _ _ (e.keep (h.rw.p7 i C));refine⟨_,_,_,_,h.prow i C Q L (qJ (.slice n L.length l)) n l (uX.setCell (S:=λq=>q=bc) (uX.of_ext e) (p:=(aA bc (i*8+7))) rfl _) ((d.ext e).set _ _) K (λj O=>?_) (λk z=>?_) (b8m r) (λJ=>?_)⟩
 ·rw[uC _ (.inr (λe=>O e.symm))];exact(uK e).1 bc j d.1
 ·obtain⟨b,rfl⟩:=N (by omega);obtain⟨R,o,_,_,v⟩:=G k z
  injection o with o
  injection o with o
  subst o;have F:L.getD k Pr0=L[k]:=by simp [z]
  rw[F]
  have a:∀m,m<6->(wr.setCell (aA bc (i*8+7)) (sS b L.length l)).cell? (aA b (k*6+m))=(fP L[k])[m]?:=λm E=>by
   rw[uC _ (.inl (λe=>(A b rfl).2.2 e.symm))];have:=v m E
   rwa [Nat.zero_add] at this
  exact⟨a 0 (by omega),a 1 (by omega),a 2 (by omega),a 3 (by omega),a 4 (by omega),a 5 (by omega)⟩
 ·obtain⟨y,_,H,_⟩:=b8n r J;have s:=A _ y;exact⟨y,a0g H (Below.heap_setCell _ _ _ _ s.2.2) (by simp [World.setCell]),s.1,Nat.le_trans u s.1⟩
theorem b7t[Inhabited uQ]{B:Nat}{w:World}{g:Nat}{x:Hp}{ar:Option Addr}{kr:Nat}{ac:Option Addr}{kc:Nat}{vg:Value}{br bc:Nat}(h:GK B w g x ar kr ac kc vg br bc)(i k:Nat)(J:i<x.A.length)(d:k<(x.c i).F.length)(r0:0<x.B.length)(K:(x.c i).F.length<=200)(hu:-3000000<=x.K/\x.K<=1000000)(ao:-3000000<=x.sub/\x.sub<=1000000)(n8:x.A.length<=8000)(a:World)(ha:a.heap.size<=B)(hx:Ext a w):
  Calls prog 149 #[pP g,iv i,iv k] w λe w'=>e=.returned (.tuple #[])/\GK B w' g (b0z x i k) ar kr ac kc vg br bc/\Fr2 g bc w w'/\Ext a w':=by
 obtain⟨pb,pa,pk,aj,h⟩:=h;have O:0<x.A.length:=by omega
 have r:=uU h;have G:=h.bx.2.2.2.2.1;rw[h.hc O] at G;have T:=h.rw.p7 i J;have PL:=uU (h.rw.pl i J (h.rw.pw J (by omega)));obtain⟨i0,ae,ab,af,ag⟩:=info_parts a3v;have j0:(0:Int)<=(i:Int):=by omega
 have j1:(i:Int)<(x.A.length:Int):=by omega
 rw[(uH PL).1] at T;have XS:=uU hx;clear h;go_enter func149,ntmps149;go_wp2_with fail;obtain⟨l,C⟩:∃l,l=(x.c i).F:=⟨_,rfl⟩;rw[<-C] at T d K
 have PP:=uU (show ∀j (U:j<l.length),qN w (pb i) (j*6) l[j] from λj U=>by
  have W:=(uH r).rw.p i J j (by rw[<-C];exact U);have h2:(x.c i).p j=l[j]:=by simp [Cl.p,<-C,U]
  rw[h2] at W;exact W)
 have HL:=uU C;have C4:=uU G;have P7:=uU T;rw[<-C];clear C;go_loopw [6,18] (λv s wr=>∃j:Nat,j<=l.length/\s=iv j/\Hid (wr.ownsRow w.heap.size 154 6 v ((l.take j).eraseIdx k).length (((l.take j).eraseIdx k).flatMap fP))/\Ext w wr) (λ_ s _=>l.length-(intOf s).toNat)
 case atStart=>exact⟨0,Nat.zero_le _,rfl,World.ownsRow_nil _ _ _ _,Ext.refl _⟩
 case round=>
  clear G T;obtain⟨j,U,rfl,f,b⟩:=hrel;by_cases A:j<l.length
  ·obtain⟨e0,e1,e2,e3,e4,e5⟩:=(uH PP j A).ext b;have k0:(0:Int)<=(j:Int):=by omega
   have k1:(j:Int)<(l.length:Int):=by omega
   have NO:=uU (λq=>cut_no f A q);have m:=uU (b6a l k j A);have X:=uU (show((l.take j).eraseIdx k).length<=j by have:=List.length_eraseIdx_le (l.take j) k;simp at this;omega);obtain⟨y,hy⟩:∃y,y=l[j]:=⟨_,rfl⟩;rw[<-hy] at e0 e1 e2 e3 e4 e5 m;clear hy;obtain⟨L,hL⟩:∃L,L=(l.take j).eraseIdx k:=⟨_,rfl⟩;rw[<-hL] at f m X;clear hL;have xa:=(Ext.refl wr).alloc (.cells #[iv y.key.k,iv y.key.n,iv y.key.a,iv y.val.k,iv y.val.n,iv y.val.a] 154);by_cases e:j=k
   ·have eb:((j:Int) != (k:Int))=false:=by simp [e]
    have N:=uU (uH (c7v (uH NO e) xa));clear NO m e;go_wp2_with fail;go_roundw
    case rel=>exact⟨j+1,by omega,by go_num,uH N,b.trans xa⟩
    case measure=>simp [intOf];omega
   ·have eb:((j:Int) != (k:Int))=true:=by simp;omega
    have Y:=uU (show(l.take (j+1)).eraseIdx k=L++[y] by rw[uH m,if_neg e]);clear NO m e;go_wp2_with (at_builtin;refine wpList_append_lies _ rfl _ _ 60 rfl w.heap.size 154 i0 (.agg #[iv 0,iv 0,iv 0,iv 0,iv 0,iv 0]) 6 48 underlying60 ae ab af ag rfl (by decide) _ L.length (L.flatMap fP) rfl (((uH f).alloc _).alloc _) _ 1 1 (fP y) rfl rfl ?c1 ?c2 (by decide) ?c3 ?G ?c5 _ rfl ?_)
    case c1=>
     intro q u d
     match q,d with
     | 0,d=>simp [fP] at d;subst d;simp [Addr.add,go_sem]
     | 1,d=>simp [fP] at d;subst d;simp [Addr.add,go_sem]
     | 2,d=>simp [fP] at d;subst d;simp [Addr.add,go_sem]
     | 3,d=>simp [fP] at d;subst d;simp [Addr.add,go_sem]
     | 4,d=>simp [fP] at d;subst d;simp [Addr.add,go_sem]
     | 5,d=>simp [fP] at d;subst d;simp [Addr.add,go_sem]
     | q+6,d=>simp [fP] at d
    case c2=>intro u hu;simp [fP] at hu;rcases hu with e | e | e | e | e | e <;> subst e <;> rfl
    case c3=>have:=uH X;unfold maxLen;omega
    case G=>have:=uH X;omega
    case c5=>have:=b.size;simp;omega
    intro gq I w2 t o ad ai
    have R:=uU (show w2.ownsRow w.heap.size 154 6 (sS gq (L.length+1) I) ((l.take (j+1)).eraseIdx k).length (((l.take (j+1)).eraseIdx k).flatMap fP) by
     rw[uH Y,List.flatMap_append]
     simpa using t)
    have P:=uU (a2g ((b.alloc _).alloc _) (((uH f).alloc _).alloc _) (Nat.le_refl _) o);clear t o ad Y;go_wp2_with fail;go_roundw
    case rel=>exact⟨j+1,by omega,by go_num,uH R,uH P⟩
    case measure=>simp [intOf];omega
  ·have OW:=uU (uH (cut_all f (by omega)));obtain⟨V,M,hv⟩:=d1d (uH OW);subst hv;have G1:=uU (c2c (uH r) i J r0 (l.eraseIdx k) V M b (uH OW));have d4:=b.keep (uH C4);have d7:=b.keep (uH P7);have fc:=(((uH r).ext b).rw.nc O).1.2 (i*8+7);have X1:=uU (show Ext a (wr.setCell (aA bc (i*8+7)) (.slice V (l.eraseIdx k).length M)) from((uH XS).trans b).setCell (p:=(aA bc (i*8+7))) (Nat.le_trans ha ((uH r).rw.nc O).2) _);have aa:¬g=bc:=λe=>by have W:=(uH r).sp.g;have h2:=(uH r).sp.c O;rw[e] at W;omega
   have ak:¬bc=g:=λe=>aa e.symm
   have b1:=b.keep (uH r).bx.2.1;have b7:=b.keep (uH r).bx.2.2.2.2.2.2.2.1;have f1:=((uH r).ext b).nf.2 1;have wu:wrap64 (x.K-1)=x.K-1:=a8p _ (by omega) (by omega);have F:=uU ((uH G1).set1 (x.K-1));have LO:=uU (uH r).lo;have Z:=uU (((Fr2.of (g:=g) (bc:=bc) b).set (aA bc (i*8+7)) (.inr rfl) (.slice V (l.eraseIdx k).length M)).set (aA g 1) (.inl rfl) (iv (x.K-1)));have P:=uU ((uH X1).setCell (p:=(aA g 1)) (Nat.le_trans ha (uH r).lo) (iv (x.K-1)));clear f OW;obtain⟨z,H⟩:∃z:Hp,z={ ({ x with A:=x.A.set i { x.c i with F:=l.eraseIdx k } }:Hp) with K:=x.K-1 }:=⟨_,rfl⟩;have HZ:=uU H;have SZ:=uU (show cN z=cN x by rw[H];unfold cN;simp);have ZS:=uU (show z.sub=x.sub by rw[H]);have F:=uU (show GK B ((wr.setCell (aA bc (i*8+7)) (.slice V (l.eraseIdx k).length M)).setCell (aA g 1) (iv (x.K-1))) g z ar kr ac kc vg br bc by rw[H];exact uH F);clear H;by_cases D:(k:Int)<x.sub
   ·obtain⟨al,am,an,ah,g2⟩:=uH F;have QS:=uU (b7e g2);rw[uH SZ] at QS;clear g2;go_wp2_with fail;refine(uH QS).mono ?_;rintro e w3 ⟨rfl,Q⟩;have S:=uU ((uH F).ext Q);have X3:=uU ((uH P).trans Q);have d1:w3.cell? (aA g 7)=some (iv x.sub):=by have:=(uH S).ok.box;exact this.2.1.trans (by rw[uH ZS])
    have d2:w3.frozen? (aA g 7)=false:=by obtain⟨_,_,_,_,g3⟩:=uH S;exact g3.nf.2 7
    have ws:wrap64 (x.sub-1)=x.sub-1:=a8p _ (by omega) (by omega);cases q:(cN x == (i:Int))
    ·have E:=uU (show b0z x i k=z by rw[uH HZ];unfold b0z;rw[if_neg (λh=>by simp [h.2] at q),uH HL]);go_wp2_with fail
     go_end0
     exact⟨rfl,by rw[uH E];exact uH S,(uH Z).ext Q,uH X3⟩
    ·have E:=uU (show b0z x i k={ z with sub:=x.sub-1 } by rw[uH HZ];unfold b0z;rw[if_pos ⟨D,by simpa using q⟩,uH HL]);have G4:=uU ((uH S).set7 (x.sub-1));have X4:=uU ((uH X3).setCell (p:=(aA g 7)) (Nat.le_trans ha (uH LO)) (iv (x.sub-1)));go_wp2_with fail
     go_end0
     exact⟨rfl,by rw[uH E];exact uH G4,((uH Z).ext Q).set (aA g 7) (.inl rfl) _,uH X4⟩
   ·have E:=uU (show b0z x i k=z by rw[uH HZ];unfold b0z;rw[if_neg (λh=>D h.1),uH HL]);go_wp2_with fail
    go_end0
    exact⟨rfl,by rw[uH E];exact uH F,uH Z,uH P⟩
def eY(x:Hp)(p:Nat->Bool):Nat->Nat
 | 0=>0
 | k+1=>eY x p k+(if p k=true then 1+(x.c k).F.length else 0)
theorem b3g{x:Hp}{p q:Nat->Bool}(h:∀i,p i=q i)(k:Nat):eY x p k=eY x q k:=by
 induction k with
 | zero=>rfl
 | succ k ih=>simp only [eY,ih,h]
theorem c1k{x:Hp}{p:Nat->Bool}(h:∀i,i<x.A.length->(x.c i).F.length<=200)(k:Nat)(a:k<=x.A.length):eY x p k<=201*k:=by
 induction k with
 | zero=>simp [eY]
 | succ k ih=>
  have:=h k (by omega);have:=ih (by omega);simp only [eY]
  split <;> omega
theorem b2b(x:Hp)(b r:Nat)(p:Nat->Bool)(w:World)(h:HAt w b x ar kr ac kc ag kg)(B:∀i,i<x.A.length->w.cell? (aA r i)=some (.bool (p i)))(A:x.A.length<=8000)(a:∀i,i<x.A.length->(x.c i).F.length<=200):
  Calls prog 76 #[pP b,sS r x.A.length x.A.length] w λe w'=>e=.returned (iv (eY x p x.A.length:Int))/\w'=w:=by
 have v:=uU B;have y:=uU h;have O:=h.c4;have HL:=uU (λk j=>c1k (p:=p) a k j);go_enter func76,ntmps76;go_wp2_with fail
 go_loop [5,10] (λn i=>∃(k u:Nat),k<=x.A.length/\i=iv k/\n=iv u/\Hid (u=eY x p k)) (λ_ i=>x.A.length-(intOf i).toNat)
 case atStart=>exact⟨0,0,Nat.zero_le _,rfl,rfl,rfl⟩
 case round=>
  obtain⟨k,u,j,rfl,rfl,g⟩:=hrel;have t:u<=201*k:=by have:=uH g;rw[this];exact HL k j
  by_cases d:k<x.A.length
  ·have q:=uH v k d;obtain⟨Q,o,D,J,rfl,N,C,E,K,L,F,I,M,G,P⟩:=y.cell k d;have H:=a k d;have z:(0:Int)<=(k:Int):=by omega
   have s:(k:Int)<(x.A.length:Int):=by omega
   cases f:p k
   ·rw[f] at q;have m:=uU (show u=eY x p (k+1) by have:=uH g;simp only [eY,f];simp;exact this);go_wp2_with fail
    go_round
    case rel=>exact⟨k+1,u,by omega,by go_num,rfl,m⟩
    case measure=>simp [intOf];omega
   ·rw[f] at q;have m:=uU (show u+(1+(x.c k).F.length)=eY x p (k+1) by have:=uH g;simp only [eY,f];simp;omega);go_wp2_with fail
    go_round
    case rel=>exact⟨k+1,u+(1+(x.c k).F.length),by omega,by go_num,by go_num,m⟩
    case measure=>simp [intOf];omega
  ·have l:k=x.A.length:=by omega
   have U:=uU (show u=eY x p x.A.length by have:=uH g;rw[l] at this;exact this);go_wp2;go_ret;exact⟨by rw[<-uH U];rfl,rfl⟩
def a1z(x:Hp)(r:Nat):Prop:=(dX x 0/\∃p:Nat->Bool,(∀i,p i=true↔uZ x i)/\r=eY x p x.A.length)\/(¬dX x 0/\r=0)
theorem a1z.uniq{r s:Nat}(h:a1z x r)(k:a1z x s):r=s:=by grind [a1z,dX.uniq,Cl.p,b3g]
theorem b5g(x:Hp)(b:Nat)(w:World)(h:HAt w b x ar kr ac kc ag kg)(k:dX x 0):
  Calls prog 75 #[pP b] w λe w'=>∃r:Nat,Hid (e=.returned (iv (r:Int)))/\a1z x r/\Ext w w':=by
 have d:=uU h;have a:=uU k;go_enter func75,ntmps75;go_wp2_with fail;refine(c0y x b _ d a.all.2.1 a.all.2.2.2 a.n8).mono ?_;rintro e m ⟨v,L,rfl,j,f,c⟩;have g:=uU j;go_wp2_with fail;refine(b2b x b w.heap.size (λi=>decide ((i:Int)∈L)) _ (d.ext c) g.s a.n8 a.p200).mono ?_;rintro e l ⟨rfl,rfl⟩;go_wp2;go_ret;exact⟨_,rfl,.inl ⟨a,_,λi=>by simpa using uH f i,rfl⟩,c⟩
def Wd0:Wd:=⟨0,0,0⟩
def Hp.r(x:Hp)(i:Nat):Wd:=x.B.getD i Wd0
theorem Hp.r_eq(x:Hp)(i:Nat)(h:i<x.B.length):x.B[i]=x.r i:=by simp [Hp.r,h]
def Hp.at(x:Hp)(i:Nat):Nat:=(x.r i).a.toNat
def keyC(c:Cl)(k:Nat)(y:Wd):Cl:={ c with F:=c.F.set k ⟨y,(c.p k).val⟩ }
def valC(c:Cl)(k:Nat)(y:Wd):Cl:={ c with F:=c.F.set k ⟨(c.p k).key,y⟩ }
def cK(x:Hp)(i:Nat)(c:Cl):Hp:={ x with A:=x.A.set i c }
def zX(c:Cl)(n:Nat):Cl:={ c with F:=c.F.take n }
def eD(x:Hp)(i n:Nat):Hp:={ x with A:=x.A.set i (zX (x.c i) n),K:=x.K-((x.c i).F.length-n:Nat),sub:=if cN x=(i:Int)/\(n:Int)<x.sub then n else x.sub }
def c6e(c:Cl)(n:Int):Cl:={ c with T:=n }
def tY(c:Cl)(n:Int):Cl:={ c with U:=n }
def b9m(x:Hp)(f c:Nat)(y:Hp)(cd nm:Int)(R:Nat->Prop):Prop:=
 ((x.r f).k≠2/\y=x/\cd=2/\nm=0)\/((x.r f).k=2/\(x.c (x.at f)).F.length<=c/\y=x/\cd=3/\nm=0)\/((x.r f).k=2/\c<(x.c (x.at f)).F.length/\R (x.at f)/\cd=0/\nm=0)
def b2h(x:Hp)(f:Nat)(y:Hp)(cd nm:Int)(R:Nat->Prop):Prop:=((x.r f).k≠2/\y=x/\cd=2/\nm=0)\/((x.r f).k=2/\R (x.at f))
def b9n(x:Hp)(a b c:Nat)(y:Hp)(cd nm:Int):Prop:=nm=0/\
 ((x.born=1000000000/\y=x/\cd=4)\/(x.born≠1000000000/\∃z,a4x x (1+c) z/\((a2q z (1+c)=false/\y=z/\cd=4)\/(a2q z (1+c)=true/\cd=0/\a4y (regTo (zC z b c) a ⟨2,0,uV z⟩) (1+c) y))))
def b5z(x:Hp)(a c i:Nat)(y:Hp)(cd nm:Int):Prop:=nm=0/\
 ((200<(x.c i).F.length+c/\y=x/\cd=5)\/((x.c i).F.length+c<=200/\∃z,a4x x c z/\((a2q z c=false/\y=z/\cd=4)\/(a2q z c=true/\cd=0/\a4y (zU z (z.at a) c) c y))))
def wdB(a b:Wd):Bool:=a.k == b.k && (a.n == b.n && a.a == b.a)
def SumIs(x:Hp)(P:Nat->Prop)(nm:Int):Prop:=∃p:Nat->Bool,(∀i,p i=true↔P i)/\nm=(eY x p x.A.length:Nat)
def d1b(x:Hp)(a:Nat)(y:Hp)(nm:Int):Prop:=(zZ x x.A.length (-1)/\y=regTo x a Wd0/\nm=0)\/∃i:Nat,zZ x x.A.length (i:Int)/\y=regTo (cK x i (tY (x.c i) 3)) a ⟨2,0,i⟩/\nm=1
def DoR(x:Hp)(a b c:Nat)(n:Int)(y:Hp)(cd nm:Int):Nat->Prop
 | 1=>b9n x a b c y cd nm
 | 2=>y=regTo x a ⟨1,n,0⟩/\cd=0/\nm=0
 | 3=>y=regTo x a Wd0/\cd=0/\nm=0
 | 4=>y=regTo x a (x.r b)/\cd=0/\nm=0
 | 5=>b9m x b c y cd nm λi=>y=regTo x a (eZ x ((x.c i).p c).key)
 | 6=>b9m x b c y cd nm λi=>y=regTo x a (eZ x ((x.c i).p c).val)
 | 7=>b9m x a c y cd nm λi=>y=shadeW (cK x i (keyC (x.c i) c (x.r b))) (x.r b)
 | 8=>b9m x a c y cd nm λi=>y=shadeW (cK x i (valC (x.c i) c (x.r b))) (x.r b)
 | 9=>b2h x a y cd nm λi=>b5z x a c i y cd nm
 | 10=>b2h x a y cd nm λi=>y=eD x i c/\cd=0/\nm=0
 | 11=>b2h x a y cd nm λi=>y=cK x i (c6e (x.c i) c)/\cd=0/\nm=0
 | 12=>b2h x a y cd nm λi=>y=(if c=1 then uD (cK x i (tY (x.c i) c)) i else cK x i (tY (x.c i) c))/\cd=0/\nm=0
 | 13=>y=x/\cd=0/\nm=if wdB (x.r a) (x.r b)=true then 1 else 0
 | 14=>y=x/\cd=0/\nm=(x.r a).k
 | 15=>y=x/\(((x.r a).k≠1/\cd=2/\nm=0)\/((x.r a).k=1/\cd=0/\nm=(x.r a).n))
 | 16=>b2h x a y cd nm λi=>y=x/\cd=0/\nm=(x.c i).kind
 | 17=>b2h x a y cd nm λi=>y=x/\cd=0/\nm=((x.c i).F.length:Nat)
 | 18=>cd=0/\∃H:Nat->Bool,(∀i,H i=true↔dE x i)/\y=a4t x H/\nm=(a9u x H x.A.length:Nat)
 | 19=>cd=0/\d1b x a y nm
 | 20=>y=x/\cd=0/\SumIs x (dE x) nm
 | 21=>y=x/\cd=0/\SumIs x (uZ x) nm
 | 22=>cd=0/\nm=0/\∃k,a7p (stepH x c) c k/\y=itU k (stepH x c)
 | 23=>y=paceTo x b c/\cd=0/\nm=0
 | 24=>cd=0/\nm=0/\c1q x y
 | _=>False
def c2b(x:Hp)(op a b c n:Int)(y:Hp)(cd nm:Int):Prop:=(qL op a b c n=false/\y=x/\cd=1/\nm=0)\/(qL op a b c n=true/\DoR x a.toNat b.toNat c.toNat n y cd nm op.toNat)
theorem a3h(x:Hp)(y:Wd)(b:Nat)(w:World)(h:HAt w b x ar kr ac kc ag kg)(q:a0y x y):
  Calls prog 138 #[pP b,y.v] w λe w'=>∃t:Wd,Hid (e=.returned t.v)/\Hid ((y.k≠2/\t=y)\/(y.k=2/\t=⟨2,0,(tgt x y:Int)⟩))/\Ext w w':=by
 cases d:(y.k == 2)
 ·exact(a9b y b w d).mono λ_ _ ⟨f,g⟩=>⟨y,f,.inl ⟨by simpa using d,rfl⟩,g⟩
 ·have c:y.k=2:=by simpa using d
  obtain⟨p,r,s,l,u⟩:=q c;obtain⟨i,j⟩:∃i:Nat,y.a=(i:Int):=⟨y.a.toNat,by omega⟩;have m:tgt x y=zH x i:=by unfold tgt;rw[j];simp
  have o:(.agg #[iv 2,iv 0,iv i]:Value)=y.v:=by rw[<-j,<-p,<-c]
  have n:y.a.toNat=i:=by omega
  rw[n] at l;have:=b0c x b i w h (by omega) l;rw[o] at this;exact this.mono λ_ _ ⟨f,g⟩=>⟨⟨2,0,(tgt x y:Int)⟩,by rw[f,m];rfl,.inr ⟨c,rfl⟩,g⟩
def b7f(w:World)(B bs:Nat)(v:Value)(wk:Int):Prop:=w.cell? ⟨B,2,none⟩=some (iv wk)/\B≠bs/\v.ownBlock≠some B
theorem b7f.ext(h:b7f w B bs v wk)(e:Ext w w'):b7f w' B bs v wk:=⟨e.keep h.1,h.2⟩
theorem Mfr.apart(m:Mfr bs v v' w w')(c:B<w.heap.size)(b:v.ownBlock≠some B):v'.ownBlock≠some B:=λe=>by
 rcases m.own with q | ⟨g,q,a⟩
 ·grind
 ·grind
theorem b7f.mfr(h:b7f w B bs v wk)(m:Mfr bs v v' w w'):b7f w' B bs v' wk:=
 have b:=uL h.1
 ⟨(World.cell?_of_block (a:=(aA B 2)) (m.block B b h.2.1 h.2.2)).trans h.1,h.2.1,m.apart b h.2.2⟩
structure PBx(w:World)(B bs:Nat)(v:Value)(p:Pr):Prop where
 c:w.cell? ⟨B,0,none⟩=some (.int .i64 p.key.k)/\w.cell? ⟨B,1,none⟩=some (.int .i64 p.key.n)/\w.cell? ⟨B,2,none⟩=some (.int .i64 p.key.a)/\w.cell? ⟨B,3,none⟩=some (.int .i64 p.val.k)/\w.cell? ⟨B,4,none⟩=some (.int .i64 p.val.n)/\w.cell? ⟨B,5,none⟩=some (.int .i64 p.val.a)
 n:B≠bs
 o:v.ownBlock≠some B
theorem PBx.ext{p:Pr}(h:PBx w B bs v p)(e:Ext w w'):PBx w' B bs v p:=⟨⟨e.keep h.c.1,e.keep h.c.2.1,e.keep h.c.2.2.1,e.keep h.c.2.2.2.1,e.keep h.c.2.2.2.2.1,e.keep h.c.2.2.2.2.2⟩,h.n,h.o⟩
theorem PBx.mfr{p:Pr}(h:PBx w B bs v p)(m:Mfr bs v v' w w'):PBx w' B bs v' p:=by
 have b:B<w.heap.size:=uL h.c.1;have k:=λo=>World.cell?_of_block (w:=w) (w':=w') (a:=(aA B o)) (m.block B b h.n h.o)
 exact⟨⟨(k 0).trans h.c.1,(k 1).trans h.c.2.1,(k 2).trans h.c.2.2.1,(k 3).trans h.c.2.2.2.1,(k 4).trans h.c.2.2.2.2.1,(k 5).trans h.c.2.2.2.2.2⟩,h.n,m.apart b h.o⟩
theorem PBx.new{base:Nat}{p:Pr}{t:TypeId}(h:Sn w base bs n v T):PBx (w.alloc (.cells #[iv p.key.k,iv p.key.n,iv p.key.a,iv p.val.k,iv p.val.n,iv p.val.a] t)) w.heap.size bs v p:=
 ⟨by simp [go_sem],by have:=h.hb.2;omega,λe=>by have:=(h.own.lt _ e).2;omega⟩
theorem qZ.more(h:qZ x L0 j p T)(b:SK (x.c j)->((x.c j).p p).key.k=2->(tgt x ((x.c j).p p).key:Int)∈T)(a:SV (x.c j)->(((x.c j).p p).key.k=2->(tgt x ((x.c j).p p).key:Int)∈L0)->((x.c j).p p).val.k=2->(tgt x ((x.c j).p p).val:Int)∈T):qZ x L0 j (p+1) T:=λq d=>by
 by_cases e:q=p
 ·subst e;exact⟨b,a⟩
 ·exact h q (by omega)
abbrev AtC(x:Hp)(L:List Int)(c j p:Nat)(T:List Int):Prop:=yL x L c T/\it T c=(j:Int)/\c<T.length/\qZ x L j p T
theorem AtC.mark{T5:List Int}(h:AtC x L c j p T)(a:Add x ((x.c j).p p).key T T5)(l:((x.c j).p p).key.k=2->dE x (tgt x ((x.c j).p p).key)):yL x L c T5/\it T5 c=(j:Int)/\c<T5.length/\qZ x L j p T5/\(SK (x.c j)->((x.c j).p p).key.k=2->(tgt x ((x.c j).p p).key:Int)∈T5):=by
 obtain⟨i,f,b,g⟩:=h;obtain⟨R,r⟩:=a.pre;have m:T.length<=T5.length:=by rw[r];simp
 refine⟨i.add a (by omega) l,?_,by omega,g.mono (λz d=>a.sub d),λ_ e=>a.has e⟩;rw[r,c3x b];exact f
theorem yL.val{T8:List Int}(h:yL x L c T/\it T c=(j:Int)/\c<T.length/\qZ x L j p T/\(SK (x.c j)->((x.c j).p p).key.k=2->(tgt x ((x.c j).p p).key:Int)∈T))(a:Add x ((x.c j).p p).val T T8)(m:((x.c j).p p).val.k=2->dE x (tgt x ((x.c j).p p).val)):yL x L c T8/\it T8 c=(j:Int)/\c<T8.length/\qZ x L j (p+1) T8:=by
 obtain⟨l,f,b,i,g⟩:=h;obtain⟨R,r⟩:=a.pre;have n:T.length<=T8.length:=by rw[r];simp
 refine⟨l.add a (by omega) m,?_,by omega,(i.mono (λz d=>a.sub d)).more (λs e=>a.sub (g s e)) (λ_ _ e=>a.has e)⟩;rw[r,c3x b];exact f
theorem a7u(x:Hp)(b:Nat)(w:World)(h:HAt w b x ar kr ac kc ag kg)(r2:R2 x)(r4:R4 x)(Z:x.A.length<=8000):
  Calls prog 77 #[.pointer (some ⟨b,0,none⟩)] w λe w'=>∃v L,Hid (e=.returned (.slice (some ⟨w.heap.size,0,none⟩) x.A.length x.A.length))/\Sn w' w.heap.size w.heap.size x.A.length v L/\Hid (∀i:Nat,(i:Int)∈L↔dE x i)/\Ext w w':=by
 have c4:=h.c4;have c3:=h.c3;have lr:=h.lr;have hb:b<w.heap.size:=uL c4;have S:=uU h;have Q2:=uU r2;have Q4:=uU r4;clear h r2 r4;obtain⟨z,bo,hz⟩:=c5v x.A.length (by omega) w;have S0:=uU (Sn.V w x.A.length 4);rw[<-hz] at S0;clear hz;go_enter func77,ntmps77;go_wp2_with fail;go_loopw [4,26] (λv i wr=>∃(k:Nat) (L:List Int),k<=x.B.length/\i=.int .i64 k/\Sn wr w.heap.size w.heap.size x.A.length v L/\Hid (a9d x L/\b1q x k L)/\Ext w wr) (λ_ i _=>x.B.length-(intOf i).toNat)
 case atStart=>exact⟨0,[],Nat.zero_le _,rfl,S0,⟨(λz hz=>by cases hz),λj _ hj=>by omega⟩,(Ext.refl w).alloc _⟩
 case round=>
  clear S0 bo c4 c3;obtain⟨k,L,hk,rfl,H,d,f⟩:=hrel;have y:=uU H;clear H;by_cases r:k<x.B.length
  ·have hh:=S.ext f;obtain⟨b',o,V,p0,p1,p2⟩:=hh.R k r;have d3:=hh.c3;rw[V] at d3;have bt:(0:Int)<=(k:Int):=by omega
   have bl:(k:Int)<(x.B.length:Int):=by omega
   have J:=(Ext.refl wr).alloc (.cells #[iv x.B[k].k,iv x.B[k].n,iv x.B[k].a] 152);subst V;clear hh;go_wp2_with fail;refine(a1a x x.B[k] b w.heap.size w.heap.size _ L _ (S.ext (f.trans J)) (a2b Q2 Q4 k r) (y.ext J) (f.trans J).size Z).mono ?_;rintro e w2 ⟨v',L',rfl,ah,ha,hm⟩
   have R:=uU (show Sn w2 w.heap.size w.heap.size x.A.length v' L'/\(a9d x L'/\b1q x (k+1) L')/\Ext w w2 from
    ⟨ah,⟨d.1.add ha (λe=>dE.reg k r e),λj hj bg e=>by
     by_cases q:j=k
     ·subst q;exact ha.has e
     ·exact ha.sub (d.2 j hj (by omega) e)⟩,(y.ext J).mext hm (f.trans J)⟩)
   clear ah ha hm J;go_wp2_with fail;go_roundw
   case rel=>exact⟨k+1,L',by omega,by go_num,R.1,R.2.1,R.2.2⟩
   case measure=>simp [intOf];omega
  ·have ay:k=x.B.length:=by omega
   subst ay;have c4:=(S.ext f).c4;have B0:=uU f;clear r hk;go_wp2_with fail;clear f;go_loopw [4,41] (λv i wr=>∃(k:Nat) (L:List Int),k<=x.A.length/\i=.int .i64 k/\Sn wr w.heap.size w.heap.size x.A.length v L/\Hid (a9d x L/\b1q x x.B.length L/\c1e x k L)/\Ext w wr) (λ_ i _=>x.A.length-(intOf i).toNat)
   case atStart=>exact⟨0,L,Nat.zero_le _,rfl,y,⟨d.1,d.2,λi hi=>by omega⟩,B0⟩
   case round=>
    clear y d B0 c4 L;obtain⟨k,L,hk,rfl,H,d,f⟩:=hrel;have y:=uU H;clear H;by_cases r:k<x.A.length
    ·have hh:=S.ext f;obtain⟨b',o,ap,kp,V,p0,p1,p2,p3,p4,p5,p6,p7,lp,P⟩:=hh.cell k r;have cf:b'<wr.heap.size:=uL p0;have d4:=hh.c4;rw[V] at d4;have bt:(0:Int)<=(k:Int):=by omega
     have bl:(k:Int)<(x.A.length:Int):=by omega
     have J:=(Ext.refl wr).alloc (.cells #[iv (x.c k).st,iv (x.c k).kind,iv (x.c k).T,iv (x.c k).U,iv (x.c k).born,iv (x.c k).J,iv (x.c k).to,.slice ap (x.c k).F.length kp] 62);subst V;clear P hh;cases tl:((x.c k).U == 2)
     ·have R:=uU (show c1e x (k+1) L from λi hi hn e=>by
       by_cases q:i=k
       ·subst q;simp at tl;exact(tl e).elim
       ·exact d.2.2 i (by omega) hn e)
      have A:=uU (And.intro (y.ext J) (f.trans J));clear J;go_wp2_with fail;go_roundw
      case rel=>exact⟨k+1,L,by omega,by go_num,A.1,⟨d.1,d.2.1,R⟩,A.2⟩
      case measure=>simp [intOf];omega
     ·have ao:(x.c k).U=2:=by simpa using tl
      have HL:=uU ao;have an:=a0a Q2 k r (.inr ao);have et:tgt x ⟨2,0,(k:Int)⟩=k:=by unfold tgt zH;simp [an]
      have MY:=uU (show a0y x ⟨2,0,(k:Int)⟩ from λ_=>⟨rfl,by simp,by simpa using r,(λh=>by simp [an] at h),by rw[et];exact a0q Q4 k r an (.inr ao)⟩);have ET:=uU et;clear ao an et;go_wp2_with fail;refine(a1a x ⟨2,0,(k:Int)⟩ b w.heap.size w.heap.size _ L _ (S.ext (f.trans J)) MY (y.ext J) (f.trans J).size Z).mono ?_;rintro e w2 ⟨v',L',rfl,ah,ha,hm⟩
      have R:=uU (show Sn w2 w.heap.size w.heap.size x.A.length v' L'/\(a9d x L'/\b1q x x.B.length L'/\c1e x (k+1) L')/\Ext w w2 from
       ⟨ah,⟨d.1.add ha (λ_=>by rw[uH ET];exact dE.due k r HL),λj hj bg e=>ha.sub (d.2.1 j hj bg e),λi hi hn e=>by
        by_cases q:i=k
        ·subst q;have:=ha.has rfl;rw[uH ET] at this;exact this
        ·exact ha.sub (d.2.2 i (by omega) hn e)⟩,(y.ext J).mext hm (f.trans J)⟩)
      clear ah ha hm J;go_wp2_with fail;go_roundw
      case rel=>exact⟨k+1,L',by omega,by go_num,R.1,R.2.1,R.2.2⟩
      case measure=>simp [intOf];omega
    ·have ay:k=x.A.length:=by omega
     subst ay;have B0:=uU f;have R0:=uU (show c1f x (-1) L from⟨d.1,d.2.1,d.2.2,⟨by omega,by omega⟩,λe=>by omega⟩);clear r hk d f;go_wp2_with fail;go_loopw [4,9] (λv n wr=>∃(m:Int) (L:List Int),n=.int .i64 m/\Sn wr w.heap.size w.heap.size x.A.length v L/\Hid (c1f x m L)/\Ext w wr) (λ_ n _=>((x.A.length:Int)-intOf n).toNat)
     case atStart=>exact⟨-1,L,rfl,y,R0,B0⟩
     case round=>
      clear y R0 B0 L;obtain⟨m,L,rfl,H,aa,f⟩:=hrel;have y:=uU H;have ca:=H.len;have ce:=aa.b;obtain⟨ad,aw,rfl,am⟩:=H.form;clear H am;by_cases aq:m=(L.length:Int)
      ·have D:=uU (show ∀i:Nat,(i:Int)∈L↔dE x i by have:=uH aa;rw[aq] at this;exact this.done);have br:(m != (L.length:Int))=false:=by simp [aq]
       clear aa;go_wp2_with fail;go_ret;exact⟨_,L,rfl,y,D,f⟩
      ·have br:(m != (L.length:Int))=true:=by simp [aq]
       have P0:=uU aa.begin;have B0:=uU f;have bw:m<(L.length:Int):=by omega
       clear aa f aq;go_wp2_with fail;go_loopw [4,10] (λv i wr=>∃(c:Nat) (T:List Int),c<=T.length/\i=.int .i64 c/\Sn wr w.heap.size w.heap.size x.A.length v T/\Hid (yL x L c T)/\Ext w wr) (λ_ i _=>x.A.length-(intOf i).toNat)
       case atStart=>exact⟨0,L,Nat.zero_le _,rfl,y,P0,B0⟩
       case round=>
        clear y P0 B0;obtain⟨c,T,hc,rfl,H,ab,f⟩:=hrel;have y:=uU H;obtain⟨ad,aw,rfl,am⟩:=H.form;have bk:=H.len;by_cases r:c<T.length
        ·obtain⟨g,rfl⟩:=am (by omega);obtain⟨a1,a2,a3⟩:=(Rw1.mk H.own).cell c r;obtain⟨j,ej,az⟩:=ab.o _ (a2w T c r);rw[ej] at a1;have av:=az.good Q2 Q4;have hh:=S.ext f;obtain⟨b',o,ap,kp,V,C⟩:=S.cell j av.1;have d4:=hh.c4;rw[V] at d4;have q0:=f.keep C.p0;have q1:=f.keep C.p1;have q2:=f.keep C.p2;have q3:=f.keep C.p3;have q4:=f.keep C.p4;have q5:=f.keep C.p5;have q6:=f.keep C.p6;have q7:=f.keep C.p7;have bp:b'<wr.heap.size:=uL q0;have bs:b<wr.heap.size:=uL d4;have bm:g<wr.heap.size:=uL a1;have lp:=C.lp;have HP:=uU C.P;have EJ:=uU ej;have RJ:=uU az;have GJ:=uU av;have bn:=av.1;have c0:(0:Int)<=(c:Int):=by omega
         have c1:(c:Int)<(T.length:Int):=by omega
         have j0:(0:Int)<=(j:Int):=by omega
         have j1:(j:Int)<(x.A.length:Int):=by omega
         clear H C hh V ej az av a3 a2;obtain⟨WR,bq⟩:∃W,W=wr:=⟨_,rfl⟩;subst bq
         have u:(x.c j).T=0\/(x.c j).T=1\/(x.c j).T=2\/(x.c j).T=3:=by
          have h2:=GJ.2.1;rcases Q2.1 j bn with z | z | z
          ·omega
          ·omega
          ·have:=z.2.2.1;omega
         have OB:=uU (show ∀q,WR.heap.size<=q->(Value.slice (some ⟨g,0,none⟩) T.length aw).ownBlock≠some q from λq hq e=>by have:=(y.own.lt _ e).2;omega);have PA:=uU ab;clear ab;go_wp2_with fail;go_cut [11] (λbu wx=>∃B:Nat,bu=.pointer (some ⟨B,0,none⟩)/\Hid (wx.cell? ⟨B,2,none⟩=some (iv (x.c j).T)/\wx.cell? ⟨B,7,none⟩=some (.slice ap (x.c j).F.length kp)/\WR.heap.size<=B)/\Ext WR wx)
         case first=>
          go_region_with (fail)
          all_goals
           go_wp2_with fail;go_meet;exact⟨_,rfl,⟨by simp [go_sem],by simp [go_sem],Nat.le_refl _⟩,((Ext.refl WR).alloc _).drew⟩
         case rest=>
          obtain⟨B,rfl,aj,xB⟩:=hcut;have b7:=aj.2.1;have X0:=uU (f.trans xB);have S0:=uU (y.ext xB);have B0:=uU (show b7f wc B w.heap.size (.slice (some ⟨g,0,none⟩) T.length aw) (x.c j).T from⟨aj.1,by have:=f.size;have:=aj.2.2;have:=y.hb.2;omega,uH OB B aj.2.2⟩);clear aj xB f y OB q0 q1 q2 q3 q4 q5 q6 q7 d4 a1 bp bs bm;go_wp2_with fail;go_loopw [4,81] (λv i wz=>∃(p:Nat) (T':List Int),p<=(x.c j).F.length/\i=.int .i64 p/\Sn wz w.heap.size w.heap.size x.A.length v T'/\Hid (yL x L c T'/\it T' c=(j:Int)/\c<T'.length/\qZ x L j p T')/\Hid (b7f wz B w.heap.size v (x.c j).T)/\Ext w wz) (λ_ i _=>(x.c j).F.length-(intOf i).toNat)
          case atStart=>exact⟨0,T,Nat.zero_le _,rfl,S0,⟨PA,EJ,r,λp hp=>by omega⟩,B0,X0⟩
          case round=>
           clear S0 PA B0 X0 b7;obtain⟨p,T,hp,rfl,H,d,ba,f⟩:=hrel;have y:=uU H;have bk:=H.len;by_cases X:p<(x.c j).F.length
           ·obtain⟨b2,o2,rfl,q0,q1,q2,q3,q4,q5⟩:=uH HP p X;have e0:=f.keep q0;have V:=f.keep q1;have e2:=f.keep q2;have e3:=f.keep q3;have e4:=f.keep q4;have e5:=f.keep q5;have cb:b2<wr.heap.size:=uL e0;have bz:B<wr.heap.size:=uL ba.1;clear q0 q1 q2 q3 q4 q5 H;have bv:(0:Int)<=(p:Int):=by omega
            have cd:(p:Int)<((x.c j).F.length:Int):=by omega
            have J:=(Ext.refl wr).alloc (.cells #[.int .i64 ((x.c j).p p).key.k,.int .i64 ((x.c j).p p).key.n,.int .i64 ((x.c j).p p).key.a,.int .i64 ((x.c j).p p).val.k,.int .i64 ((x.c j).p p).val.n,.int .i64 ((x.c j).p p).val.a] 154);have M:=uU (a0j Q2 Q4 j p GJ X);have bx:=ba.1;have Y:=uU (y.ext J);have au:=uU (ba.ext J);have XA:=f.trans J;have PB:=uU (show PBx (wr.alloc (.cells #[.int .i64 ((x.c j).p p).key.k,.int .i64 ((x.c j).p p).key.n,.int .i64 ((x.c j).p p).key.a,.int .i64 ((x.c j).p p).val.k,.int .i64 ((x.c j).p p).val.n,.int .i64 ((x.c j).p p).val.a] 154)) wr.heap.size w.heap.size _ ((x.c j).p p) from PBx.new y);rcases u with u | u | u | u
            rotate_left 2
            ·have F:=bx;rw[u] at F;go_wp2_with fail;refine(a1a x ((x.c j).p p).key b w.heap.size w.heap.size _ T _ (S.ext XA) M.1 Y XA.size Z).mono ?_;rintro e w5 ⟨v5,I,rfl,ak,ae,K⟩;have X5:=Y.mext K XA;have S5:=uU ak;have A5:=uU ae;have B5:=uU (au.mfr K);have P5:=uU (PB.mfr K);have af:=B5.1;rw[u] at af;have G:=uU (show yL x L c I/\it I c=(j:Int)/\c<I.length/\qZ x L j p I/\(SK (x.c j)->((x.c j).p p).key.k=2->(tgt x ((x.c j).p p).key:Int)∈I) from AtC.mark d A5 (λe=>dE.key j p RJ X ⟨by omega,by omega⟩ e));obtain⟨u0,u1,u2,u3,u4,u5⟩:=P5.c;clear K ak ae e0 V e2 e3 e4 e5 F;go_wp2_with fail;refine(a3h x ((x.c j).p p).key b _ (S.ext X5) M.1).mono ?_;rintro e Q ⟨t,rfl,ht,l⟩;have X6:=X5.trans l;have S6:=uU (S5.ext l);have B6:=uU (B5.ext l);have P6:=uU (P5.ext l);have N:=B6.1;rw[u] at N;have bc:B<Q.heap.size:=uL N;obtain⟨z0,z1,z2,z3,z4,z5⟩:=P6.c;have bd:wr.heap.size<Q.heap.size:=uL z0;have be:w.heap.size<Q.heap.size:=S6.hb.2;have xk:=(Ext.refl Q).alloc (.cells #[iv t.k,iv t.n,iv t.a] 152);have X7:=X6.trans xk;have S7:=uU (S6.ext xk);have B7:=uU (B6.ext xk);clear l u0 u1 u2 u3 u4 u5 af;have R:=uU (show qZ x L j (p+1) I from G.2.2.2.1.more G.2.2.2.2 (λs=>by unfold SV at s;omega));go_wp2_with fail;go_roundw
             case rel=>exact⟨p+1,I,by omega,by go_num,S7,⟨G.1,G.2.1,G.2.2.1,R⟩,B7,X7⟩
             case measure=>simp [intOf];omega
            ·have F:=bx;rw[u] at F;go_wp2_with fail;have X5:=XA;have S5:=uU Y;have B5:=uU au;have P5:=uU PB;have G:=uU (show yL x L c T/\it T c=(j:Int)/\c<T.length/\qZ x L j p T/\(SK (x.c j)->((x.c j).p p).key.k=2->(tgt x ((x.c j).p p).key:Int)∈T) from⟨d.1,d.2.1,d.2.2.1,d.2.2.2,λs=>by unfold SK at s;omega⟩);refine(a3h x ((x.c j).p p).key b _ (S.ext X5) M.1).mono ?_;rintro e Q ⟨t,rfl,ht,l⟩;have X6:=X5.trans l;have S6:=uU (S5.ext l);have B6:=uU (B5.ext l);have P6:=uU (P5.ext l);have N:=B6.1;rw[u] at N;have bc:B<Q.heap.size:=uL N;obtain⟨z0,z1,z2,z3,z4,z5⟩:=P6.c;have bd:wr.heap.size<Q.heap.size:=uL z0;have be:w.heap.size<Q.heap.size:=S6.hb.2;have xk:=(Ext.refl Q).alloc (.cells #[iv t.k,iv t.n,iv t.a] 152);have X7:=X6.trans xk;have S7:=uU (S6.ext xk);have B7:=uU (B6.ext xk);clear l e0 V e2 e3 e4 e5 F;have R:=uU (show qZ x L j (p+1) T from G.2.2.2.1.more G.2.2.2.2 (λs=>by unfold SV at s;omega));go_wp2_with fail;go_roundw
             case rel=>exact⟨p+1,T,by omega,by go_num,S7,⟨G.1,G.2.1,G.2.2.1,R⟩,B7,X7⟩
             case measure=>simp [intOf];omega
            have F:=bx;rw[u] at F;go_wp2_with fail;refine(a1a x ((x.c j).p p).key b w.heap.size w.heap.size _ T _ (S.ext XA) M.1 Y XA.size Z).mono ?_;rintro e w5 ⟨v5,I,rfl,ak,ae,K⟩;have X5:=Y.mext K XA;have S5:=uU ak;have A5:=uU ae;have B5:=uU (au.mfr K);have P5:=uU (PB.mfr K);have af:=B5.1;rw[u] at af;have G:=uU (show yL x L c I/\it I c=(j:Int)/\c<I.length/\qZ x L j p I/\(SK (x.c j)->((x.c j).p p).key.k=2->(tgt x ((x.c j).p p).key:Int)∈I) from AtC.mark d A5 (λe=>dE.key j p RJ X ⟨by omega,by omega⟩ e));obtain⟨u0,u1,u2,u3,u4,u5⟩:=P5.c;clear K ak ae e0 V e2 e3 e4 e5 F;go_wp2_with fail;clear u0 u1 u2 u3 u4 u5 af;rotate_left;have F:=bx;rw[u] at F;go_wp2_with fail;have X5:=XA;have S5:=uU Y;have B5:=uU au;have P5:=uU PB;have G:=uU (show yL x L c T/\it T c=(j:Int)/\c<T.length/\qZ x L j p T/\(SK (x.c j)->((x.c j).p p).key.k=2->(tgt x ((x.c j).p p).key:Int)∈T) from⟨d.1,d.2.1,d.2.2.1,d.2.2.2,λs=>by unfold SK at s;omega⟩);clear e0 V e2 e3 e4 e5 F;obtain⟨I,bj⟩:∃q,q=T:=⟨_,rfl⟩;subst bj
            all_goals
             refine(a3h x ((x.c j).p p).key b _ (S.ext X5) M.1).mono ?_;rintro e Q ⟨t,rfl,ht,l⟩;have X6:=X5.trans l;have S6:=uU (S5.ext l);have B6:=uU (B5.ext l);have P6:=uU (P5.ext l);have N:=B6.1;rw[u] at N;have bc:B<Q.heap.size:=uL N;obtain⟨z0,z1,z2,z3,z4,z5⟩:=P6.c;have bd:wr.heap.size<Q.heap.size:=uL z0;have be:w.heap.size<Q.heap.size:=S6.hb.2;have xk:=(Ext.refl Q).alloc (.cells #[iv t.k,iv t.n,iv t.a] 152);have X7:=X6.trans xk;have S7:=uU (S6.ext xk);have B7:=uU (B6.ext xk);clear l;rcases uH ht with⟨hk,rfl⟩ | ⟨hk,rfl⟩
             ·have cc:(((x.c j).p p).key.k != 2)=true:=by simp [hk]
              go_wp2_with fail;refine(a1a x ((x.c j).p p).val b w.heap.size w.heap.size _ I _ (S.ext X7) M.2 S7 X7.size Z).mono ?_;rintro e w8 ⟨v8,U,rfl,al,ai,O⟩
              have R:=uU (show Sn w8 w.heap.size w.heap.size x.A.length v8 U/\(yL x L c U/\it U c=(j:Int)/\c<U.length/\qZ x L j (p+1) U)/\b7f w8 B w.heap.size v8 (x.c j).T/\Ext w w8 from
               ⟨al,yL.val G ai (λe=>dE.val j p RJ X ⟨by omega,by omega⟩ (λe=>(hk e).elim) e),B7.mfr O,S7.mext O X7⟩)
              clear al ai O;go_wp2_with fail;go_roundw
              case rel=>exact⟨p+1,U,by omega,by go_num,R.1,R.2.1,R.2.2.1,R.2.2.2⟩
              case measure=>simp [intOf];omega
             ·have bi:tgt x ((x.c j).p p).key<x.A.length:=(M.1 hk).2.2.2.2.1;have sn:=S7.s _ bi;obtain⟨tg,ax⟩:∃q,q=tgt x ((x.c j).p p).key:=⟨_,rfl⟩;rw[<-ax] at sn bi xk S7 B7 X7 ⊢;have bf:=uU ax;clear ax;have t0:(0:Int)<=(tg:Int):=by omega
              have t1:(tg:Int)<(x.A.length:Int):=by omega
              by_cases hm:(tg:Int)∈I
              ·have E:decide ((tg:Int)∈I)=true:=decide_eq_true hm;rw[E] at sn;clear E;go_wp2_with fail;refine(a1a x ((x.c j).p p).val b w.heap.size w.heap.size _ I _ (S.ext X7) M.2 S7 X7.size Z).mono ?_;rintro e w8 ⟨v8,U,rfl,al,ai,O⟩
               have R:=uU (show Sn w8 w.heap.size w.heap.size x.A.length v8 U/\(yL x L c U/\it U c=(j:Int)/\c<U.length/\qZ x L j (p+1) U)/\b7f w8 B w.heap.size v8 (x.c j).T/\Ext w w8 from
                ⟨al,yL.val G ai (λe=>dE.val j p RJ X ⟨by omega,by omega⟩ (λ_=>by rw[<-uH bf];obtain⟨q,eq,hq⟩:=G.1.o _ hm;have e3:tg=q:=(by omega);rw[e3];exact hq) e),B7.mfr O,S7.mext O X7⟩)
               clear al ai O;go_wp2_with fail;go_roundw
               case rel=>exact⟨p+1,U,by omega,by go_num,R.1,R.2.1,R.2.2.1,R.2.2.2⟩
               case measure=>simp [intOf];omega
              ·have E:decide ((tg:Int)∈I)=false:=decide_eq_false hm;rw[E] at sn;clear E;have R:=uU (show qZ x L j (p+1) I from G.2.2.2.1.more G.2.2.2.2 (λ_ hh=>(hm (by obtain⟨R,e⟩:=G.1.e;rw[e];exact List.mem_append_left _ (by rw[uH bf];exact hh hk))).elim));go_wp2_with fail;go_roundw
               case rel=>exact⟨p+1,I,by omega,by go_num,S7,⟨G.1,G.2.1,G.2.2.1,R⟩,B7,X7⟩
               case measure=>simp [intOf];omega
           ·have bb:p=(x.c j).F.length:=by omega
            have R:=uU (show yL x L (c+1) T/\c+1<=T.length by
             obtain⟨i1,i2,i3,i4⟩:=d;rw[bb] at i4;exact⟨i1.step i2 i4,i3⟩)
            clear H bb;go_wp2_with fail;go_roundw
            case rel=>exact⟨c+1,T,R.2,by go_num,y,R.1,f⟩
            case measure=>simp [intOf];omega
        ·have bh:c=T.length:=by omega
         have R:=uU (show c1f x (L.length:Int) T by have:=uH ab;rw[bh] at this;exact this.rest);clear H bh am ab;go_wp2_with fail;go_roundw
         case rel=>exact⟨_,T,rfl,y,R,f⟩
         case measure=>simp [intOf];omega
theorem c4t(x:Hp)(b:Nat)(w:World)(h:HAt w b x ar kr ac kc ag kg)(K:x.A.length<=8000):
  Calls prog 92 #[pP b] w λe w'=>∃r:Int,Hid (e=.returned (iv r))/\Hid (zZ x x.A.length r)/\Ext w w':=by
 have z:=uU h;have m:=h.c4;go_enter func92,ntmps92;go_wp2_with fail;go_loopw [3,11] (λa i wr=>∃(k:Nat) (r:Int),k<=x.A.length/\i=iv k/\a=iv r/\Hid (zZ x k r)/\Ext w wr) (λ_ i _=>x.A.length-(intOf i).toNat)
 case atStart=>exact⟨0,-1,Nat.zero_le _,rfl,rfl,.inl ⟨rfl,λi s=>by omega⟩,Ext.refl w⟩
 case round=>
  obtain⟨k,r,L,rfl,rfl,f,d⟩:=hrel;by_cases j:k<x.A.length
  ·have l:=z.ext d;have m:=l.c4;obtain⟨p,Q,N,S,rfl,C⟩:=l.cell k j;have G:=C.p0;have M:=C.p1;have O:=C.p2;have U:=C.p3;have V:=C.p4;have P:=C.p5;have R:=C.p6;have X:=C.p7;have H:p<wr.heap.size:=uL G;have F:b<wr.heap.size:=uL m;have E:(0:Int)<=(k:Int):=by omega
   have o:(k:Int)<(x.A.length:Int):=by omega
   cases t:((x.c k).U == 2)
   ·have D:=uU (show zZ x (k+1) r from f.no (by simpa using t));go_wp2_with fail;go_quiet (fail);go_wp2;go_roundw
    case rel=>exact⟨k+1,r,by omega,by go_num,rfl,D,(d.alloc _).drewN _⟩
    case measure=>simp [intOf];omega
   ·have T:=uU (show(x.c k).U=2 by simpa using t);rcases f.form with rfl | ⟨i,rfl,s⟩
    ·have D:=uU (f.first T);go_wp2_with fail;go_quiet (fail);go_wp2;go_roundw
     case rel=>exact⟨k+1,k,by omega,by go_num,rfl,D,(d.alloc _).drewN _⟩
     case measure=>simp [intOf];omega
    ·obtain⟨B,I,J,n,q,v⟩:=l.cell i (by omega);cases q;have W:=v.p4
     have u:(i:Int)<(x.A.length:Int):=by omega
     have A:(0:Int)<=(i:Int):=by omega
     by_cases y:(x.c k).born<(x.c i).born
     ·have D:=uU (f.less T y);go_wp2_with fail;go_quiet (fail);go_wp2;go_roundw
      case rel=>exact⟨k+1,k,by omega,by go_num,rfl,D,(d.alloc _).drewN _⟩
      case measure=>simp [intOf];omega
     ·have D:=uU (f.more (by omega));go_wp2_with fail;go_quiet (fail);go_wp2;go_roundw
      case rel=>exact⟨k+1,i,by omega,by go_num,rfl,D,(d.alloc _).drewN _⟩
      case measure=>simp [intOf];omega
  ·have g:k=x.A.length:=by omega
   have D:=uU (show zZ x x.A.length r by have:=uH f;rw[g] at this;exact this);go_wp2;go_ret;exact⟨r,rfl,D,d⟩
def inH(x:Hp)(H:Nat->Bool)(b:Hp)(i k:Nat):Hp:={ b with A:=b.A.set i { x.c i with F:=(x.c i).F.take k++a6h x H (x.c i) ((x.c i).F.drop k) },K:=b.K-tK x H (x.c i) ((x.c i).F.drop k),sub:=if cN x=(i:Int) then b.sub-tK x H (x.c i) (((x.c i).F.take b.sub.toNat).drop k) else b.sub }
theorem b7u(x:Hp)(H:Nat->Bool)(c:Cl)(p:Pr)(l:List Pr):a6h x H c (p::l)=if goB x H c p=true then a6h x H c l else p::a6h x H c l:=by grind [Hp.c,Cl.p,a6h,goB]
theorem a3z(x:Hp)(H:Nat->Bool)(c:Cl)(p:Pr)(l:List Pr):tK x H c (p::l)=if goB x H c p=true then tK x H c l+1 else tK x H c l:=by grind [Hp.c,Cl.p,tK,goB]
theorem a8q(x:Hp)(H:Nat->Bool)(c:Cl)(l:List Pr):tK x H c l<=l.length:=by
 have:=a8o x H c l;omega
theorem a5p(l:List Pr)(k:Nat)(h:k<l.length):l.drop k=l[k]::l.drop (k+1):=List.drop_eq_getElem_cons h
theorem c2d(l:List Pr)(s k:Nat)(h:k<s)(a:s<=l.length):(l.take s).drop k=(l[k]'(by omega))::(l.take s).drop (k+1):=by
 rw[List.drop_eq_getElem_cons (by simp;omega)];simp
theorem inH_top(x:Hp)(H:Nat->Bool)(b:Hp)(i:Nat)(f:i<b.A.length)(g:b.c i=x.c i):inH x H b i (x.c i).F.length=b:=by
 have a:(x.c i).F.drop (x.c i).F.length=[]:=List.drop_length;have d:((x.c i).F.take b.sub.toNat).drop (x.c i).F.length=[]:=List.drop_eq_nil_of_le (by simp;omega);unfold inH;rw[a,d,List.take_length]
 have e:b.A.set i { x.c i with F:=(x.c i).F++a6h x H (x.c i) [] }=b.A:=by
  have:({ x.c i with F:=(x.c i).F++a6h x H (x.c i) [] }:Cl)=b.A[i]:=by rw[Hp.c_eq b i f,g];simp [a6h]
  rw[this];simp
 rw[e];simp [tK]
theorem d1e(x:Hp)(H:Nat->Bool)(b:Hp)(i k:Nat)(d:k<(x.c i).F.length)(q:goB x H (x.c i) (x.c i).F[k]=false)(f:cN x=(i:Int)->b.sub<=(x.c i).F.length):inH x H b i k=inH x H b i (k+1):=by
 unfold inH;rw[a5p _ k d,b7u,a3z,if_neg (by simp [q]),if_neg (by simp [q]),List.take_succ_eq_append_getElem d,List.append_assoc,List.singleton_append]
 congr 1
 by_cases e:cN x=(i:Int)
 ·rw[if_pos e,if_pos e];have f:=f e;by_cases a:k<b.sub.toNat
  ·rw[c2d _ _ k a (by omega),a3z,if_neg (by simp [q])]
  ·rw[List.drop_eq_nil_of_le (by simp;omega),List.drop_eq_nil_of_le (by simp;omega)]
 ·rw[if_neg e,if_neg e]
theorem d1f(x:Hp)(H:Nat->Bool)(b:Hp)(i k:Nat)(a:cN b=cN x):cN (inH x H b i k)=cN x:=by grind [cN,inH]
theorem inH_len(x:Hp)(H:Nat->Bool)(b:Hp)(i k:Nat):(inH x H b i k).A.length=b.A.length:=by simp [inH]
theorem inH_c(x:Hp)(H:Nat->Bool)(b:Hp)(i k:Nat)(a:i<b.A.length):(inH x H b i k).c i={ x.c i with F:=(x.c i).F.take k++a6h x H (x.c i) ((x.c i).F.drop k) }:=by grind [inH,Hp.c,a6h,Hp.c_set,Grw.at]
theorem inH_cut(x:Hp)(H:Nat->Bool)(b:Hp)(i k:Nat)(j:i<b.A.length)(a:k<(x.c i).F.length)(q:goB x H (x.c i) (x.c i).F[k]=true)(m:cN x=(i:Int)->0<=b.sub/\b.sub<=(x.c i).F.length)(l:cN b=cN x):b0z (inH x H b i (k+1)) i k=inH x H b i k:=by
 have f:=inH_c x H b i (k+1) j;have g:((x.c i).F.take k).length=k:=by simp;omega
 have d:(((x.c i).F.take (k+1)++a6h x H (x.c i) ((x.c i).F.drop (k+1))).eraseIdx k)=(x.c i).F.take k++a6h x H (x.c i) ((x.c i).F.drop k):=by
  rw[a5p _ k a,b7u,if_pos q,List.take_succ_eq_append_getElem a,List.append_assoc,List.eraseIdx_append_of_length_le (by omega),g,Nat.sub_self];simp
 have h:tK x H (x.c i) ((x.c i).F.drop k)=tK x H (x.c i) ((x.c i).F.drop (k+1))+1:=by rw[a5p _ k a,a3z,if_pos q]
 have e:(if (k:Int)<(inH x H b i (k+1)).sub/\cN (inH x H b i (k+1))=(i:Int) then (inH x H b i (k+1)).sub-1 else (inH x H b i (k+1)).sub)=(inH x H b i k).sub:=by grind [inH,Add.sub,cN,d1f,dW.hlt,c2d,Hp.c,a8q,a3z,tK]
 unfold b0z;rw[e,f];simp only [d];unfold inH;simp only [h,List.set_set]
 congr 1
 omega
theorem GAt.hat[Inhabited uQ](h:GAt B w g x ar kr ac kc vg br bc pb pa pk role)(s:Snd x):∃ag kg,HAt w g x ar kr ac kc ag kg:=by
 obtain⟨ag,kg,a⟩:=h.gr.form;subst a;have O:=s.ok.n8;have N:=s.r1.D;obtain⟨⟨v,L,b,_,H⟩,⟨n,u,k,_,p⟩,⟨z,G,d,_,m⟩⟩:=h.rd (by rw[s.r1.B];omega) (by omega) (λq t=>s.ok.p200 q t) (by omega)
 injection b with b;injection k with k;injection d with d
 subst b k d;obtain⟨A,M,C,F,I,D,y,J,r,E,j,f,c⟩:=h.bx;exact⟨ag,kg,A,M,C,F,I,D,y,J,r,E,j,f,c,by rw[s.r1.B];omega,by omega,by omega,H,λi l=>by obtain⟨K,o,e,q⟩:=p i l;rw[Hp.c_eq x i l] at q;exact⟨K,o,e,q⟩,m⟩
theorem res_in(d:R2 x)(b:uW y x.A.length):(eZ x y).k=2->0<=(eZ x y).a/\(eZ x y).a<x.A.length:=by grind [R2,uW,eZ,Grw.at,hJ,eH,Hp.c]
theorem c2e(h:∀q,(z.c q).st=(x.c q).st/\(z.c q).to=(x.c q).to)(y:Wd):eZ z y=eZ x y:=by grind [Hp.c,eZ]
theorem c7w(h:∀q,(z.c q).st=(x.c q).st/\(z.c q).to=(x.c q).to)(H:Nat->Bool)(y:Wd):tX z H y=tX x H y:=by
 unfold tX;rw[c2e h]
theorem c7x(s:Snd x)(h:dE x i)(k:Nat)(a:k<(x.c i).F.length):uW ((x.c i).p k).key x.A.length/\uW ((x.c i).p k).val x.A.length:=by
 have g:=h.good s.r2 s.r4;have p:=((s.r4.2 i g.1).2 k a).2 g.2.2;exact⟨p.1.1,p.2.1⟩
theorem inH_st(x:Hp)(H:Nat->Bool)(b:Hp)(i k:Nat)(a:i<b.A.length)(d:∀q,(b.c q).st=(x.c q).st/\(b.c q).to=(x.c q).to)(q:Nat):((inH x H b i k).c q).st=(x.c q).st/\((inH x H b i k).c q).to=(x.c q).to:=by grind [Hp.c,inH,Hp.c_set,a6h]
theorem d1g(x:Hp)(H:Nat->Bool)(k:Nat)(a:k<=x.A.length)(q:Nat):((cD x H k).c q).st=(x.c q).st/\((cD x H k).c q).to=(x.c q).to:=by
 rw[b0y x H k a q]
 split
 ·exact⟨rfl,rfl⟩
 ·exact⟨rfl,rfl⟩
theorem a6j(x:Hp)(H:Nat->Bool):∀k,(cD x H k).E=x.E/\(cD x H k).I=x.I/\(cD x H k).D=x.D/\(cD x H k).B=x.B
 | 0=>⟨rfl,rfl,rfl,rfl⟩
 | k+1=>by
  unfold cD
  split
  ·exact a6j x H k
  ·exact a6j x H k
theorem c4s(x:Hp)(H:Nat->Bool)(k:Nat):cN (cD x H k)=cN x:=by grind [cN,cD,Hp.c,a6j,a2k]
theorem b7v(x:Hp)(H:Nat->Bool)(i:Nat)(e:cN x=(i:Int)):∀k,k<=i->(cD x H k).sub=x.sub
 | 0,_=>rfl
 | k+1,hk=>by
  have ih:=b7v x H i e k (by omega);unfold cD
  split
  ·grind [a6i,cD,Add.sub,cN]
  ·exact ih
theorem c7y(x:Hp)(H:Nat->Bool)(i:Nat)(h:H i=true):cD x H (i+1)=inH x H (cD x H i) i 0:=by grind [cD,inH,b9k,a6i]
theorem b2i(x:Hp)(H:Nat->Bool)(hp:∀i,i<x.A.length->(x.c i).F.length<=200):∀k,k<=x.A.length->a1o x H k<=200*k
 | 0,_=>Nat.le_refl _
 | k+1,hk=>by
  have ih:=b2i x H hp k (by omega);have h1:=a8q x H (x.c k) (x.c k).F;have h2:=hp k (by omega);unfold a1o
  split <;> omega
theorem b6b(x:Hp)(H:Nat->Bool):∀k,(cD x H k).K=x.K-a1o x H k
 | 0=>by simp [cD,a1o]
 | k+1=>by
  have ih:=b6b x H k;unfold cD a1o
  split
  ·grind [cD,tK,Hp.c,a1o]
  ·exact ih
theorem b6c(x:Hp)(H:Nat->Bool)(hp:∀i,i<x.A.length->(x.c i).F.length<=200):∀k,k<=x.A.length->x.sub-200*k<=(cD x H k).sub/\(cD x H k).sub<=x.sub
 | 0,_=>by simp [cD]
 | k+1,hk=>by
  have ih:=b6c x H hp k (by omega);unfold cD
  split
  ·grind [Add.sub,a6i,cD,a8q,Hp.c]
  ·omega
theorem inH_num(x:Hp)(H:Nat->Bool)(a:∀i,i<x.A.length->(x.c i).F.length<=200)(i k:Nat)(b:i<x.A.length)(n:x.A.length<=8000)(o:0<=x.K/\x.K<=4000)(p:0<=x.sub/\x.sub<=200):
  (-3000000<=(inH x H (cD x H i) i k).K/\(inH x H (cD x H i) i k).K<=1000000)/\(-3000000<=(inH x H (cD x H i) i k).sub/\(inH x H (cD x H i) i k).sub<=1000000):=by
 have m:=b2i x H a i (by omega);have f:=b6b x H i;have d:=b6c x H a i (by omega);have g:=a8q x H (x.c i) ((x.c i).F.drop k);have l:=a i b;have h:((x.c i).F.drop k).length<=200:=by simp;omega
 have e:=a8q x H (x.c i) (((x.c i).F.take (cD x H i).sub.toNat).drop k);have j:(((x.c i).F.take (cD x H i).sub.toNat).drop k).length<=200:=by simp;omega
 unfold inH;refine⟨?_,?_⟩
 ·simp only;omega
 ·simp only;split <;> omega
theorem a4a(x z:Hp)(H:Nat->Bool):∀k,(qK x z H k).A.length=z.A.length
 | 0=>rfl
 | k+1=>by
  unfold qK
  split
  ·simp [a4a x z H k]
  ·exact a4a x z H k
theorem c6f(x z:Hp)(H:Nat->Bool):∀k,k<=z.A.length->∀q,k<=q->(qK x z H k).c q=z.c q
 | 0,_,q,_=>rfl
 | k+1,hk,q,hq=>by
  have ih:=c6f x z H k (by omega) q (by omega);unfold qK
  split
  ·grind [Hp.c_set,qK,b7d,Hp.c,a4a]
  ·exact ih
theorem c6g(x:Hp)(H:Nat->Bool):∀k,a9u x H k<=k
 | 0=>Nat.le_refl _
 | k+1=>by
  have:=c6g x H k;unfold a9u
  split <;> omega
theorem c2f(s:Snd x)(d:i<x.A.length)(b:(x.c i).st=1)(e:cN x=(i:Int)):0<=x.sub/\x.sub<=(x.c i).F.length:=by
 refine⟨s.r1.sub.1,?_⟩;unfold cN at e
 split at e
 ·rename_i h;have:=(s.r6.2.1 h.1).2.2 (by omega);have a:x.g0=i:=by unfold Hp.g0;rw[e];simp
  rw[a] at this;exact this
 ·split at e
  ·rename_i h;have a:x.I.toNat=i:=by omega
   have:=(s.r6.2.2.1 h.1).2;rw[a] at this;exact this ⟨by omega,b⟩
  ·omega
theorem Snd.reg(s:Snd x)(f:Nat)(a:f<16):hU x (x.r f) False:=by
 have h:=s.r4.1 f (by rw[s.r1.B];exact a);rw[Hp.r_eq] at h;exact h
theorem Snd.at(s:Snd x)(f:Nat)(e:f<16)(d:(x.r f).k=2):(x.r f).n=0/\(x.r f).a=(x.at f:Int)/\x.at f<x.A.length/\(x.c (x.at f)).st=1/\¬uE x (x.at f):=by
 have h:=s.reg f e;have b:=h.1;unfold uW at b;have g:(x.r f).a=((x.r f).a.toNat:Int):=by omega
 rcases h.2 d with o | o
 ·exact o.2.elim
 ·grind [Hp.at,Hp.r,Hp.c,uE]
theorem b9p(x:Hp)(j:Nat)(c:Cl)(a:c.F.length=(x.c j).F.length)(q:Nat):(({ x with A:=x.A.set j c }:Hp).c q).F.length=(x.c q).F.length:=by grind [Hp.c,uX.A,QFr.A,qC.set,Nf1.set,Hp.c_set]
theorem b7x(x:Hp)(j q:Nat):((uD x j).c q).F.length=(x.c q).F.length:=by grind [uD,Hp.c,b9p,tQ]
theorem b2j(x:Hp)(y:Wd)(q:Nat):((shadeW x y).c q).F.length=(x.c q).F.length:=by grind [shadeW,Hp.c,b7x]
theorem b9q(q:Nat):∀(ys:List Wd) (z:Hp),((ys.foldl shadeW z).c q).F.length=(z.c q).F.length
 | [],_=>rfl
 | y::ys,z=>(b9q q ys (shadeW z y)).trans (b2j z y q)
theorem uprs1(x:Hp)(q:Nat):((dC x).c q).F.length=(x.c q).F.length:=by
 unfold dC
 split
 ·rfl
 ·by_cases e:yZ (x.c x.I.toNat)=true
  ·simp only [if_pos e];exact b7x x _ q
  ·simp only [if_neg e];rfl
theorem uprs2(x:Hp)(q:Nat):((cX x).c q).F.length=(x.c q).F.length:=by
 unfold cX
 split
 ·rename_i g G _
  split
  ·exact(b2j _ _ q).trans (b2j _ _ q)
  ·grind [b9p,a1j,Hp.c,cX]
 ·split
  ·exact b9q q x.B x
  ·exact b9q q x.B x
theorem uprs5(x:Hp)(q:Nat):((cV x).c q).F.length=(x.c q).F.length:=by
 unfold cV
 split
 ·rfl
 ·grind [b9p,Snd.I,qH,Hp.c,Add.sub,cV]
theorem take_at{α:Type}(l:List α)(m q:Nat)(d:α)(h:q<m):(l.take m).getD q d=l.getD q d:=by simp [h]
theorem uprs3(x:Hp)(s:Snd x)(f:x.E=3)(q:Nat)(g:q<x.A.length)(e:(x.c q).st=1)(d:¬uE x q):((cY x).c q).F.length=(x.c q).F.length:=by
 have a:=s.r1.I;unfold cY
 split
 ·rfl
 ·have b:x.I.toNat<x.A.length:=by omega
  split
  ·grind [uX.A,QFr.A,qC.set,Nf1.set,Snd.I,Cl0,Hp.c,Hp.c_set,uE,whB]
  ·grind [b9p,Snd.I,qX,Hp.c,uE,cY]
theorem uprs6(x:Hp)(s:Snd x)(q:Nat)(k:q<x.A.length)(j:(x.c q).st=1):((hE x).c q).F.length=(x.c q).F.length:=by
 have g:=s.r1.I;unfold hE
 split
 ·rfl
 ·have e:∀i,i<x.A.length->((cJ x i).c q)=x.c q:=λi f=>by
   unfold cJ
   split
   ·grind [uX.A,QFr.A,qC.set,Nf1.set,Cl0,Hp.c,Hp.c_set,Hp.at,Snd.at,hE]
   ·rfl
  have a:=e (x.I-1).toNat (by omega);unfold qE
  split
  ·rename_i d
   have h:q≠(x.I-1).toNat:=λu=>by grind [Snd.I,Hp.at,Snd.at,Hp.c,hE]
   have b:q<(x.I-1).toNat:=by
    have l:(cJ x (x.I-1).toNat).A.length=x.A.length:=by unfold cJ;split <;> simp
    have:=d.1;omega
   rw[<-a];show(((cJ x (x.I-1).toNat).A.take (x.I-1).toNat).getD q Cl0).F.length=_;rw[take_at _ _ _ _ b];rfl
  ·rw[a]
theorem GAt.pplace[Inhabited uQ](h:GAt B w g x ar kr ac kc vg br bc pb pa pk role)(i:Nat)(S:i<x.A.length)(L:List Pr)(hL:L.length<=pk i)(I:0<pk i)(o:uX (λq=>q=bc\/q=pb i) w w')(F:Nf1 bc w')(J:Nfp (pb i) (pk i) w')(Z:w'.cell? (aA bc (i*8+7))=some (.slice (pa i) L.length (pk i)))(T:∀j,j≠i*8+7->w'.cell? (aA bc j)=w.cell? (aA bc j))
  (hp:∀k,k<L.length->qN w' (pb i) (k*6) (L.getD k Pr0)) :
  GAt B w' g { x with A:=x.A.set i { x.c i with F:=L } } ar kr ac kc vg br bc pb pa pk role:=by
 have E:0<x.A.length:=by omega
 have l:∀q,q<w.heap.size->role q≠3->role q≠6+i->w'.heap[q]?=w.heap[q]?:=λq b u Y=>o.block q b (λe=>by
  rcases e with e | e
  ·exact u (by rw[e];exact h.sp.c E)
  ·exact Y (by rw[e];exact h.sp.p i S I))
 have f:({ x with A:=x.A.set i { x.c i with F:=L } }:Hp).A.length=x.A.length:=by simp
 have K:=Hp.c_set x i { x.c i with F:=L } S;have n:∀q,q≠i->(({ x with A:=x.A.set i { x.c i with F:=L } }:Hp).c q)=x.c q:=λq e=>by rw[K q,if_neg e]
 have t:(({ x with A:=x.A.set i { x.c i with F:=L } }:Hp).c i)={ x.c i with F:=L }:=by rw[K i,if_pos rfl]
 have Q:=l g h.nf.1 (by rw[h.sp.g];omega) (by rw[h.sp.g];omega);have R:∀q,q<x.A.length->q≠i->0<pk q->w'.heap[pb q]?=w.heap[pb q]?:=λq b U f=>l (pb q) (h.rw.pl q b f).2.1.1 (by rw[h.sp.p q b f];omega) (by rw[h.sp.p q b f];omega)
 have O:0<x.B.length->w'.heap[br]?=w.heap[br]?:=λu=>l br (h.rw.nr u).1.1 (by rw[h.sp.r u];omega) (by rw[h.sp.r u];omega)
 refine⟨?_,uJ h.nf Q o.size,h.lo,h.ha,λ_=>h.hc E,⟨λj A=>?_,λq b=>?_,λq b=>?_,λq b j A=>?_,λq b z=>?_,λu=>⟨uJ (h.rw.nr u).1 (O u) o.size,(h.rw.nr u).2⟩,λ_=>⟨F,(h.rw.nc E).2⟩,λ_=>h.rw.d E,λq X b C H G W=>?_,λq b=>?_⟩,h.gr.block (λq b=>l q (h.gr.lt q b).2 (by rw[h.sp.y q b];omega) (by rw[h.sp.y q b];omega)),⟨h.sp.g,h.sp.r,λ_=>h.sp.c E,h.sp.y,λq b z=>?_⟩,by rw[f];exact h.kl,h.pr.of (λq b G=>l q b (by rw[G];omega) (by rw[G];omega)) (λ_ _ h=>h),λI=>(h.cc I).A rfl F (λj v _ hv=>?_)⟩
 ·rw[f];exact h.bx.block Q
 ·exact(h.rw.r j A).of λm _=>World.cell?_of_block (a:=(aA br _)) (O (by have:j<x.B.length:=A;omega))
 ·rw[f] at b;have D:S7 w' bc (q*8) (x.c q):=(h.rw.s q b).of λm hm=>T _ (by omega)
  by_cases e:q=i
  ·subst e;rw[t];exact D
  ·rw[n q e];exact D
 ·rw[f] at b;by_cases e:q=i
  ·subst e;rw[t];exact Z
  ·rw[n q e,T _ (by omega)];exact h.rw.p7 q b
 ·rw[f] at b;by_cases e:q=i
  ·subst e;rw[t] at A ⊢;exact hp j A
  ·rw[n q e] at A ⊢;exact(h.rw.p q b j A).of λm _=>World.cell?_of_block (a:=(aA (pb q) _)) (R q b e (h.rw.pw b (by omega)))
 ·rw[f] at b;obtain⟨P,V,N,M⟩:=h.rw.pl q b z;by_cases e:q=i
  ·subst e;exact⟨P,J,N,M⟩
  ·exact⟨P,a0g V (R q b e z) o.size,N,M⟩
 ·rw[f] at b C;exact h.rw.dp q X b C H G W
 ·rw[f] at b;by_cases e:q=i
  ·subst e;rw[t];exact hL
  ·rw[n q e];exact h.rw.kp q b
 ·rw[f] at b;exact h.sp.p q b z
 ·grind [Nf1,qN,Pr0,Hp.c]
abbrev moreP(x:Hp)(i:Nat):Hp:={ x with A:=x.A.set i { x.c i with F:=(x.c i).F++[Pr0] } }
structure AppP[Inhabited uQ](B:Nat)(g:Nat)(x:Hp)(ar:Option Addr)(kr:Nat)(ac:Option Addr)(kc:Nat)(vg:Value)(br bc:Nat)(i:Nat)(v w:World)(a':Option Addr)(k':Nat)(w':World):Prop where
 gk:∀W,Ext w' W->GK B (W.setCell ⟨bc,i*8+7,none⟩ (.slice a' ((x.c i).F.length+1) k')) g (moreP x i) ar kr ac kc vg br bc
 far:∀q,q=g\/q=bc->w'.heap[q]?=w.heap[q]?
 sz:w.heap.size<=w'.heap.size
 ex:Ext v w'
 nf:Nf1 bc w'
theorem c8b(L:List Pr):L.flatMap fP++fP Pr0=(L++[Pr0]).flatMap fP:=by simp
theorem d1o[Inhabited uQ]{B:Nat}{w:World}{g:Nat}{x:Hp}{ar:Option Addr}{kr:Nat}{ac:Option Addr}{kc:Nat}{vg:Value}{br bc:Nat}{pb:Nat->Nat}{pa:Nat->Option Addr}{pk:Nat->Nat}{role:Nat->Nat}(h:GAt B w g x ar kr ac kc vg br bc pb pa pk role)(i:Nat)(A:i<x.A.length)(r0:0<x.B.length)(h2:(x.c i).F.length<200)(X:TypeId)(d:World)(D:Ext w d)(ad:Addr)(c:Nat)(hz:∀j u,(fP Pr0)[j]?=some u->d.cell? (ad.add j)=some u)(v:World)(hv:v.heap.size<=B)(hx:Ext v w):
  ∃a' k' w',(Builtin.append_ #[60,60] X #[.slice (pa i) (x.c i).F.length (pk i),.slice (some ad) 1 c]).run prog d=.ok (.slice a' ((x.c i).F.length+1) k') w'/\AppP B g x ar kr ac kc vg br bc i v w a' k' w':=by
 have t:=h.ext D;obtain⟨Z,F,T,y,R⟩:=info_parts a3v;have hn:0<x.A.length:=by omega
 have K:∀u∈fP Pr0,u.oneCell'=true:=λu E=>by simp [fP,Pr0] at E;subst E;rfl
 have r:=(t.rw.nc hn).1;have lk:=t.rw.kp i A;by_cases hr:(x.c i).F.length+1<=pk i
 ·have s:0<pk i:=by omega
  obtain⟨a1,L,a3,a4⟩:=t.rw.pl i A s
  have f:=run_append_room_cells (P:=prog) d 60 X 154 Z underlying60 F (pb i) 0 (x.c i).F.length (pk i) ad 1 c (fP Pr0) (by rw[y];rfl) hz K hr (λj I=>by
   have I:j<6:=I;obtain⟨u,E⟩:=L.3 (0+(x.c i).F.length*Z.size+j) (by rw[y];omega);rw[E];rfl) (λj _=>L.2 _)
  rw[y,Nat.zero_add] at f;have H:uX (λq=>q=pb i) d (d.setCells (pb i) ((x.c i).F.length*6) (fP Pr0)):=a5a (S:=λq=>q=pb i) rfl (uX.refl _ d);have G:bc≠pb i:=λe=>a3.2 e.symm
  have N:=H.block bc r.1 G;refine⟨pa i,pk i,_,by rw[a1];exact f,⟨λW e=>⟨pb,pa,pk,role,?_⟩,λq J=>?_,Nat.le_trans D.size H.size,H.ext (hx.trans D) (λq J e=>by omega),uJ r N H.size⟩⟩
  ·have oW:uX (λq=>q=pb i) d W:=H.trans (uX.of_ext e);have fW:=oW.block bc r.1 G;refine t.pplace i A ((x.c i).F++[Pr0]) (by simpa using hr) s (uX.setCell (oW.mono (λq e=>.inr e)) (p:=(aA bc (i*8+7))) (.inl rfl) _) ((uJ r fW oW.size).set _ _) ((L.put.ext e).set _ _) ?_ (λj I=>?_) (λk s=>?_)
   ·rw[List.length_append];exact World.cell?_setCell_same _ _ _ ((World.cell?_of_block (a:=(aA bc (i*8+7))) fW).trans (t.rw.p7 i A))
   ·rw[uC _ (.inr (λe=>I e.symm))];exact World.cell?_of_block (a:=(aA bc j)) fW
   ·have O:∀m,(W.setCell (aA bc (i*8+7)) (.slice (pa i) ((x.c i).F.length+1) (pk i))).cell? (aA (pb i) m)=(d.setCells (pb i) ((x.c i).F.length*6) (fP Pr0)).cell? (aA (pb i) m):=λm=>by
     rw[uC _ (.inl (λe=>G e))];exact(uK e).1 (pb i) m (Nat.lt_of_lt_of_le L.1 H.size)
    by_cases ek:k<(x.c i).F.length
    ·have C:((x.c i).F++[Pr0]).getD k Pr0=(x.c i).p k:=by simp [Cl.p,List.getElem?_append_left ek]
     rw[C];exact(t.rw.p i A k ek).of λj I=>by rw[O,b1a (pb i) _ _ _ d (by omega)]
    ·have aa:k=(x.c i).F.length:=by simp at s;omega
     subst aa;have C:((x.c i).F++[Pr0]).getD (x.c i).F.length Pr0=Pr0:=by simp
     rw[C]
     have n:∀m,m<6->(W.setCell (aA bc (i*8+7)) (.slice (pa i) ((x.c i).F.length+1) (pk i))).cell? (aA (pb i) ((x.c i).F.length*6+m))=(fP Pr0)[m]?:=λm hm=>by
      rw[O];exact c4v (pb i) (fP Pr0) _ m d (λm hm=>L.3 _ (by have:m<6:=hm;omega)) hm
     exact⟨n 0 (by omega),n 1 (by omega),n 2 (by omega),n 3 (by omega),n 4 (by omega),n 5 (by omega)⟩
  ·rcases J with rfl | rfl
   ·refine(H.block q t.nf.1 ?_).trans (D.block q h.nf.1);exact(λe=>by have s1:=h.sp.g;have s2:=h.sp.p i A s;rw[e] at s1;omega)
   ·exact N.trans (D.block q (h.rw.nc hn).1.1)
 ·have M:∃U w',(Builtin.append_ #[60,60] X #[.slice (pa i) (x.c i).F.length (pk i),.slice (some ad) 1 c]).run prog d=.ok U w'/\w'.ownsRow d.heap.size 154 6 U ((x.c i).F.length+1) ((x.c i).F.flatMap fP++fP Pr0)/\d.grownBy w' none:=by
   have V:(x.c i).F.length+1<=maxLen:=by unfold maxLen;omega
   cases ep:pa i with
   | none=>
    have Q:pk i=0:=by
     rcases Nat.eq_zero_or_pos (pk i) with Q | Q
     ·exact Q
     ·have:=(t.rw.pl i A Q).1;rw[ep] at this;cases this
    have l0:(x.c i).F=[]:=List.eq_nil_of_length_eq_zero (by omega);rw[Q,l0];obtain⟨U,w',r1,r2,r3,_⟩:=run_append_own (P:=prog) d d.heap.size 60 X 154 Z _ 6 48 underlying60 F T y R rfl (by decide) (.slice none 0 0) 0 [] (World.ownsRow_nil d _ _ _) ad 1 c (fP Pr0) rfl hz K (by unfold maxLen;omega) (by decide) (Nat.le_refl _);exact⟨U,w',r1,r2,r3⟩
   | some b=>
    refine run_append_arg_grows (P:=prog) d 60 X 154 Z _ 6 48 underlying60 F T y R rfl (by decide) b _ _ ((x.c i).F.flatMap fP) (d1m _) (λj u E=>?_) ad 1 c (fP Pr0) rfl hz (by omega) V (by omega)
    have I:j<((x.c i).F.flatMap fP).length:=by
     rcases Nat.lt_or_ge j ((x.c i).F.flatMap fP).length with q | q
     ·exact q
     ·rw[List.getElem?_eq_none q] at E;cases E
    rw[d1m] at I;have s:0<pk i:=by omega
    have Y:=(t.rw.pl i A s).1;rw[ep] at Y;have Y:=Option.some.inj Y;rw[Y,Addr.add_lit];exact fP_at (o:=0) (λk s=>by rw[Nat.zero_add,Cl.p_eq _ _ s];exact t.rw.p i A k s) j u E
  obtain⟨U,w',f,z,l⟩:=M;have C:Ext d w':=⟨l.os,l.tape,l.output,l.size,λk s=>l.block k s (by simp)⟩;obtain⟨a',k',rfl⟩:=d1d z;refine⟨a',k',w',f,⟨λW e=>?_,λq J=>?_,Nat.le_trans D.size l.size,(hx.trans D).trans C,r.ext C⟩⟩
  ·have ow:W.ownsRow d.heap.size 154 6 (.slice a' ((x.c i).F++[Pr0]).length k') ((x.c i).F++[Pr0]).length (((x.c i).F++[Pr0]).flatMap fP):=by
    rw[<-c8b,List.length_append];exact uN z (λq J=>e.block q (z.lt q J).2)
   have:=c2c t i A r0 ((x.c i).F++[Pr0]) a' k' (C.trans e) ow;rw[List.length_append] at this;exact this
  ·rcases J with rfl | rfl
   ·exact(C.block q t.nf.1).trans (D.block q h.nf.1)
   ·exact(C.block q r.1).trans (D.block q (h.rw.nc hn).1.1)
theorem c8c[Inhabited uQ]{ops:Array Oper}{o:Oper}{a:Act}{K:Act->World->Prop}{Q:Exit->Act->World->Prop}{E:Prop}(b:World)(d:o.guard=none)(s y:Operand)
  (m:o.op=.call { callee:=.builtin .append,args:=#[s,y],argTypes:=#[60,60] })
                (h:GAt B w g x ar kr ac kc vg br bc pb pa pk role) (i:Nat) (n:i<x.A.length) (r:0<x.B.length) (z:(x.c i).F.length<200) (p:Ext w b) (ad:Addr) (c:Nat)
  (C:a.eval s=.slice (pa i) (x.c i).F.length (pk i)) (l:a.eval y=.slice (some ad) 1 c) (t:∀j u,(fP Pr0)[j]?=some u->b.cell? (ad.add j)=some u) (v:World) (q:v.heap.size<=B) (D:Ext v w)
  (A:∀a' k' w',AppP B g x ar kr ac kc vg br bc i v w a' k' w'->K (a.put o.dst (.slice a' ((x.c i).F.length+1) k')) w') :
  if Region.wanted o (yielded ops a.tmps)=true then Oper.wp prog o a b K Q else E:=by
 have f:Region.wanted o (yielded ops a.tmps)=true:=by simp [Region.wanted,d]
 rw[if_pos f];obtain⟨a',k',w',k,e⟩:=d1o h i n r z o.type b p ad c t v q D;unfold Oper.wp execOp;simp only [m,resolve,invoke,builtin,Sem.run_bind,Sem.run_pure,Result.andThen_ok,List.map_toArray,List.map_cons,List.map_nil,C,l,k];exact A a' k' w' e
theorem b3m(x:Hp)(y:Wd):(shadeW x y).B=x.B:=by grind [shadeW,cU]
theorem b2k:∀(ys:List Wd) (z:Hp),(ys.foldl shadeW z).B=z.B
 | [],_=>rfl
 | y::ys,z=>(b2k ys (shadeW z y)).trans (b3m z y)
theorem uregs1(x:Hp):(dC x).B=x.B:=by
 unfold dC
 split
 ·rfl
 ·by_cases e:yZ (x.c x.I.toNat)=true
  ·simp only [if_pos e];exact(cU x _).2.2.2.1
  ·simp only [if_neg e]
theorem uregs2(x:Hp):(cX x).B=x.B:=by
 unfold cX
 split
 ·grind [b3m,cX]
 ·split
  ·exact b2k x.B x
  ·exact b2k x.B x
theorem uregs3(x:Hp):(cY x).B=x.B:=by
 unfold cY
 split
 ·rfl
 ·split <;> rfl
theorem uregs5(x:Hp):(cV x).B=x.B:=by
 unfold cV
 split
 ·rfl
 ·split <;> rfl
theorem uregs6(x:Hp):(hE x).B=x.B:=by
 unfold hE qE
 split
 ·rfl
 ·split <;> rfl
def KpN(x y:Hp)(a:Nat):Prop:=(y.r a).k=2/\(y.c (y.at a)).F.length=(x.c (x.at a)).F.length
theorem KpN.same{y:Hp}(e:y.B=x.B)(b:(x.r a).k=2)(d:(y.c (x.at a)).F.length=(x.c (x.at a)).F.length):KpN x y a:=by grind [KpN,qC.same,Hp.r,Hp.c,Hp.at,Snd.at]
theorem KpN.unit4(s:Snd x)(l:a<16)(d:(x.r a).k=2):KpN x (unit4 x) a:=by
 obtain⟨_,n,m,o,_⟩:=s.at a l d;unfold Go.Proofs.YtddkhnclmeikfaaGreat.unit4
 split
 ·exact KpN.same rfl d rfl
 ·rename_i b;obtain⟨t,h⟩:∃t,t=uV x:=⟨_,rfl⟩;have j:=a1b x;rcases a1s x x.A.length with⟨l1,_⟩ | ⟨f,l1,l2,l3,_⟩
  ·omega
  ·rw[l1] at b ⊢;rw[<-h] at j b ⊢;have i:((f:Int)).toNat=f:=by omega
   rw[i];have u:t<x.A.length:=by omega
   have p:∀q,(dL x t f).c q=if q=f then mvC t else if q=t then x.c f else x.c q:=λq=>by grind [dL,Hp.c,mvC,uX.A,QFr.A,qC.set,Nf1.set,Hp.c_set,KpN,unit4]
   have g:(dL x t f).r a=mvW t f (x.r a):=by grind [dL,Hp.r,mvW,Wd0,KpN,unit4]
   unfold KpN Hp.at;rw[g];unfold mvW;by_cases e:(x.r a).a=(f:Int)
   ·grind [dL,Hp.c,KpN,unit4,Hp.r]
   ·grind [Hp.r,Hp.at,Snd.at,KpN,unit4]
theorem KpN.unit(s:Snd x)(c:a<16)(b:(x.r a).k=2):KpN x (cE x) a:=by grind [KpN,Snd.unit,Hp.r,cE,Hp.at,Snd.at,qC.same,KpN.same,uregs1,uprs1,uregs2,uprs2,uregs3,uprs3,KpN.unit4,unit4,uregs5,uprs5,uregs6,uprs6]
theorem KpN.it{x:Hp}(s:Snd x){a:Nat}(ha:a<16)(h2:(x.r a).k=2):∀k,KpN x (itU k x) a
 | 0=>⟨h2,rfl⟩
 | k+1=>by
  have i:=KpN.it s ha h2 k;have j:=KpN.unit (s.itU k) ha i.1;exact⟨j.1,j.2.trans i.2⟩
theorem KpN.M(s:Snd x)(g:a<16)(f:(x.r a).k=2)(h:a4x x u z):KpN x z a:=by
 rcases h with h | ⟨_,y,c,l⟩
 ·rw[h.2];exact⟨f,rfl⟩
 ·have d:=s.forceTo;have b:=c.snd d;obtain⟨k,_,e⟩:=c;obtain⟨m,_,n⟩:=l;have i:KpN (forceTo x) y a:=by rw[e];exact KpN.it d g f k
  have j:KpN (cZ y 1 0) z a:=by rw[n];exact KpN.it (b.1.begin b.2) g i.1 m
  exact⟨j.1,j.2.trans i.2⟩
theorem b5z.snd{y:Hp}(s:Snd x)(ha:a<16)(h2:(x.r a).k=2)(hi:i=x.at a)(h:b5z x a c i y cd nm):Snd y:=by
 rcases h.2 with h | ⟨hl,z,hz,h | h⟩
 ·rw[h.2.1];exact s
 ·rw[h.2.1];exact hz.snd s
 ·have sz:=hz.snd s;obtain⟨k1,k2⟩:=KpN.M s ha h2 hz;obtain⟨_,_,p3,p4,_⟩:=sz.at a ha k1;have hu:z.K+c<=z.M:=by have e:=h.1;unfold a2q at e;exact of_decide_eq_true e
  exact h.2.2.snd (sz.grow (z.at a) c p3 p4 (by rw[k2,<-hi];exact hl) hu)
abbrev b2m(x:Hp)(t:Nat)(c':Cl):Hp:={ x with A:=a5o x t c' }
theorem newX_c(x:Hp)(t:Nat)(a:Cl)(b:t<=x.A.length)(q:Nat):(b2m x t a).c q=if q=t then a else x.c q:=c6d x (b2m x t a) t a b rfl q
theorem newX_lt(x:Hp)(t:Nat)(b:Cl)(c:t<=x.A.length)(q:Nat)(a:q<(b2m x t b).A.length):q=t\/(q<x.A.length/\q≠t):=by
 have:=a8n x t b;have a:q<(a5o x t b).length:=a;rw[this] at a
 split at a <;> omega
theorem S7.of2{b' o:Nat}{c:Cl}(h:S7 w b o c)(e:∀j,j<7->w'.cell? (aA b' (o+j))=w.cell? (aA b (o+j))):S7 w' b' o c:=by
 obtain⟨f,g,i,a,l,d,k⟩:=h;exact⟨(e 0 (by omega)).trans f,(e 1 (by omega)).trans g,(e 2 (by omega)).trans i,(e 3 (by omega)).trans a,(e 4 (by omega)).trans l,(e 5 (by omega)).trans d,(e 6 (by omega)).trans k⟩
theorem GAt.newc[Inhabited uQ](h:GAt B w g x ar kr ac kc vg br bc pb pa pk role)(Z:0<x.B.length)(t:Nat)(ht:t<=x.A.length)(A:Cl)(c E F:Nat)(Y:Option Addr)(M:Nat)(hs:w.heap.size<=w'.heap.size)
  (ad:(c=bc/\0<kc)\/w.heap.size<=c) (ae:∀q,q<w.heap.size->q≠g->q≠c->w'.heap[q]?=w.heap[q]?) (ah:Nf1 g w') (bx:dK w' g (b2m x t A) (.slice ar x.B.length kr) (sS c (a5o x t A).length E) vg)
  (N:Nf1 c w') (ab:∀j,j<E*8->∃v,w'.cell? (aA c j)=some v) (hB:B<=c) (ag:(a5o x t A).length<=E) (af:S7 w' c (t*8) A) (aa:w'.cell? (aA c (t*8+7))=some (.slice Y A.F.length M))
  (ho:∀q,q<x.A.length->q≠t->∀j,j<8->w'.cell? (aA c (q*8+j))=w.cell? (aA bc (q*8+j))) (hp:∀k,k<A.F.length->qN w' F (k*6) (A.p k)) (X:A.F.length<=M) (R:0<M->Y=some (aA F 0)/\Nfp F M w'/\w.heap.size<=F/\B<=F/\F≠c) :
  GAt B w' g (b2m x t A) ar kr (some (aA c 0)) E vg br c (λq=>if q=t then F else pb q) (λq=>if q=t then Y else pa q) (λq=>if q=t then M else pk q) (λd=>if d=c then 3 else if w.heap.size<=d then 6+t else role d):=by
 have Q:∀d,d<w.heap.size->role d≠3->d≠c:=λd hd n e=>by
  rcases ad with⟨i,l⟩ | i
  ·exact n (by rw[e,i];exact(h.cc l).ro)
  ·omega
 have J:∀d,d<w.heap.size->role d≠3->(if d=c then 3 else if w.heap.size<=d then 6+t else role d)=role d:=λd hd n=>by rw[if_neg (Q d hd n),if_neg (by omega)]
 have o:∀q,q<w.heap.size->role q≠0->role q≠3->w'.heap[q]?=w.heap[q]?:=λq b h0 h3=>ae q b (λe=>h0 (by rw[e];exact h.sp.g)) (Q q b h3)
 have O:=newX_c x t A ht;have C:=newX_lt x t A ht;have pf:∀q,q<x.A.length->0<pk q->w'.heap[pb q]?=w.heap[pb q]?:=λq b G=>o (pb q) (h.rw.pl q b G).2.1.1 (by rw[h.sp.p q b G];omega) (by rw[h.sp.p q b G];omega)
 have fr:0<x.B.length->w'.heap[br]?=w.heap[br]?:=λn=>o br (h.rw.nr n).1.1 (by rw[h.sp.r n];omega) (by rw[h.sp.r n];omega)
 have W:∀q,q<x.A.length->0<pk q->pb q≠c:=λq b G=>Q (pb q) (h.rw.pl q b G).2.1.1 (by rw[h.sp.p q b G];omega)
 refine⟨bx,ah,h.lo,h.ha,λ_=>rfl,⟨λj D=>?_,λq b=>?_,λq b=>?_,λq b j D=>?_,λq b f=>?_,λn=>⟨uJ (h.rw.nr n).1 (fr n) hs,(h.rw.nr n).2⟩,λ_=>⟨N,hB⟩,λ_=>Q br (h.rw.nr Z).1.1 (by rw[h.sp.r Z];omega),λq K b I L z H=>?_,λq b=>?_⟩,h.gr.block (λq b=>o q (h.gr.lt q b).2 (by rw[h.sp.y q b];omega) (by rw[h.sp.y q b];omega)),⟨?_,λn=>?_,λ_=>if_pos rfl,λq b=>?_,λq b f=>?_⟩,ag,h.pr.of (λq b z=>o q b (by rw[z];omega) (by rw[z];omega)) (λq b z=>by(try dsimp only);rw[J q b (by rw[z];omega)];exact z),λ_=>⟨rfl,if_pos rfl,N,ab,hB⟩⟩
 ·exact(h.rw.r j D).of λm _=>World.cell?_of_block (a:=(aA br _)) (fr (by have:j<x.B.length:=D;omega))
 ·rw[O q];rcases C q b with e | ⟨i,l⟩
  ·rw[if_pos e,e];exact af
  ·rw[if_neg l];exact(h.rw.s q i).of2 λj D=>ho q i l j (by omega)
 ·rw[O q];rcases C q b with e | ⟨i,l⟩
  ·simp only [if_pos e];rw[e];exact aa
  ·simp only [if_neg l];rw[ho q i l 7 (by omega)];exact h.rw.p7 q i
 ·rw[O q] at D ⊢;rcases C q b with e | ⟨i,l⟩
  ·simp only [if_pos e] at D ⊢;exact hp j D
  ·simp only [if_neg l] at D ⊢;exact(h.rw.p q i j D).of λm _=>World.cell?_of_block (a:=(aA (pb q) _)) (pf q i (h.rw.pw i (by omega)))
 ·rcases C q b with e | ⟨i,l⟩
  ·simp only [if_pos e] at f ⊢;obtain⟨V,U,P,T,S⟩:=R f;exact⟨V,U,⟨λe=>by have:=(h.rw.nr Z).1.1;omega,S⟩,T⟩
  ·simp only [if_neg l] at f ⊢;obtain⟨V,U,P,T⟩:=h.rw.pl q i f;exact⟨V,a0g U (pf q i f) hs,⟨P.1,W q i f⟩,T⟩
 ·rcases C q b with e | ⟨i,l⟩
  ·have e':K≠t:=λu=>L (by rw[e,u])
   rcases C K I with u | ⟨u1,u2⟩
   ·exact absurd u e'
   ·simp only [if_pos e,if_neg e'] at z H ⊢;have:=(h.rw.pl K u1 H).2.1.1;have:=(R z).2.2.1;omega
  ·rcases C K I with u | ⟨u1,u2⟩
   ·simp only [if_pos u,if_neg l] at z H ⊢;have:=(h.rw.pl q i z).2.1.1;have:=(R H).2.2.1;omega
   ·simp only [if_neg l,if_neg u2] at z H ⊢;exact h.rw.dp q K i u1 L z H
 ·rw[O q];rcases C q b with e | ⟨i,l⟩
  ·simp only [if_pos e];exact X
  ·simp only [if_neg l];exact h.rw.kp q i
 ·rw[J g h.nf.1 (by rw[h.sp.g];omega)];exact h.sp.g
 ·rw[J br (h.rw.nr n).1.1 (by rw[h.sp.r n];omega)];exact h.sp.r n
 ·rw[J q (h.gr.lt q b).2 (by rw[h.sp.y q b];omega)];exact h.sp.y q b
 ·rcases C q b with e | ⟨i,l⟩
  ·simp only [if_pos e] at f ⊢;obtain⟨_,_,P,_,S⟩:=R f;rw[if_neg S,if_pos P,e]
  ·simp only [if_neg l] at f ⊢;rw[J (pb q) (h.rw.pl q i f).2.1.1 (by rw[h.sp.p q i f];omega)];exact h.sp.p q i f
structure Edit(x:Hp)(i:Nat)(c:Cl):Prop where
 hi:i<x.A.length
 st:(x.c i).st=1
 nd:¬uE x i
 e:c.st=(x.c i).st/\c.kind=(x.c i).kind/\c.T=(x.c i).T/\c.born=(x.c i).born/\c.J=(x.c i).J/\c.to=(x.c i).to
 la:0<=c.U/\c.U<=3
 ln:c.F.length=(x.c i).F.length
 ld:∀k,k<c.F.length->hU x (c.p k).key (¬cH x i k)/\hU x (c.p k).val (¬cH x i k)
 lk:uY x->∀k,k<hD x i->¬hY x (c.p k).key/\¬hY x (c.p k).val
 sp:hQ c->uY x->c.J=0->¬(x.E=2\/(i:Int)<x.I)
theorem a3i(x:Hp)(i:Nat)(c:Cl)(a:i<x.A.length)(q:Nat):(cK x i c).c q=if q=i then c else x.c q:=Hp.c_set x i c a q
theorem b2o(x:Hp)(i:Nat)(c:Cl):(cK x i c).A.length=x.A.length:=by simp [cK]
theorem Snd.edit{c:Cl}(h:Snd x)(t:Edit x i c):Snd (cK x i c):=by
 obtain⟨F,Q,P,J,L,I⟩:=t.e;have z:=a3i x i c t.hi;have b:=b2o x i c
 have sm:∀q,((cK x i c).c q).st=(x.c q).st/\((cK x i c).c q).born=(x.c q).born/\((cK x i c).c q).J=(x.c q).J/\((cK x i c).c q).to=(x.c q).to/\((cK x i c).c q).F.length=(x.c q).F.length:=λq=>by
  rw[z q];by_cases e:q=i
  ·rw[if_pos e,e];exact⟨F,J,L,I,t.ln⟩
  ·grind [Hp.c,cK]
 have n:∀q,uE (cK x i c) q↔uE x q:=λq=>by unfold uE;rw[(sm q).1,(sm q).2.2.1];exact Iff.rfl
 have s:∀(y:Wd) (m:Prop),hU x y m->hU (cK x i c) y m:=λy m l=>⟨by rw[b];exact l.1,λf=>by rw[(sm _).1,n];exact l.2 f⟩
 have G:∀y:Wd,hY (cK x i c) y->hY x y:=λy D=>⟨D.1,by rw[<-(sm _).2.2.1];exact D.2⟩
 refine⟨?_,⟨λq a=>?_,λq a H k f=>?_⟩,⟨?_,h.r3.2⟩,⟨λj N=>s _ _ (h.r4.1 j N),λq a=>?_⟩,⟨h.r5.1,λq a=>?_,λg A=>?_⟩,⟨h.r6.1,λv=>?_,λv=>?_,h.r6.2.2.2⟩,λB q a=>?_,λq a=>?_⟩
 ·exact⟨h.r1.M,h.r1.B,by rw[b];exact h.r1.A,by rw[b];exact h.r1.D,h.r1.born,h.r1.Q,h.r1.S,h.r1.per,h.r1.V,h.r1.E,by rw[b];exact h.r1.I,h.r1.sub⟩
 ·rw[b] at a;have E:=h.r2.1 q a;by_cases e:q=i
  ·subst e;refine .inr (.inr ⟨by rw[(sm q).1];exact t.st,?_⟩);rw[z q,if_pos rfl];have S:=t.la;have R:=t.ln;have O:=t.st;rcases E with o | o | ⟨_,o⟩
   ·omega
   ·omega
   ·grind [a2t,Grw.at,Hp.at,cK,Hp.c]
  ·unfold hJ;rw[z q,if_neg e];rcases E with o | ⟨o,m⟩ | o
   ·exact .inl o
   ·refine .inr (.inl ⟨o,m.1,m.2.1,m.2.2.1,m.2.2.2.1,by rw[(sm _).1];exact m.2.2.2.2.1,λv k f=>by rw[(sm k).1];exact m.2.2.2.2.2 v k f⟩)
   ·exact .inr (.inr o)
 ·rw[b] at a;rw[(sm q).1] at H;rw[(sm k).1,(sm k).2.1,(sm k).2.2.2.1,(sm q).1,(sm q).2.1,(sm q).2.2.2.1];exact h.r2.2 q a H k f
 ·have u:units (cK x i c).A=units x.A:=a3x x.A i c t.hi (by rw[Hp.c_eq x i t.hi];unfold hV;rw[F,t.ln]);rw[u];exact h.r3.1
 ·rw[b] at a;rw[z q];by_cases e:q=i
  ·subst e;rw[if_pos rfl];refine⟨λd=>t.nd ((n q).1 d.1),λk f=>⟨λd=>absurd ((n q).1 d) t.nd,λ_=>?_⟩⟩;have:=t.ld k f;exact⟨s _ _ this.1,s _ _ this.2⟩
  ·rw[if_neg e];have o:=h.r4.2 q a;refine⟨λd=>o.1 ⟨(n q).1 d.1,d.2⟩,λk f=>?_⟩;have p:=o.2 k f;refine⟨λd=>by rw[b];exact p.1 ((n q).1 d),λd=>?_⟩;have:=p.2 (λM=>d ((n q).2 M));exact⟨s _ _ this.1,s _ _ this.2⟩
 ·rw[b] at a;have o:=h.r5.2.1 q a;unfold eK at o ⊢;rw[(sm q).2.2.1];exact o
 ·rw[b];exact h.r5.2.2 g A
 ·have r:=h.r6.2.1 v;refine⟨r.1,r.2.1,λA=>?_⟩;rw[(sm _).2.2.2.2];exact r.2.2 A
 ·have r:=h.r6.2.2.1 v;rw[b,(sm _).1,(sm _).2.2.2.2];exact r
 ·rw[b] at a;have o:=h.r7 B q a
  have K:hD (cK x i c) q=hD x q:=by grind [hD,cK,Hp.c,sm]
  rw[K,z q];by_cases e:q=i
  ·subst e;rw[if_pos rfl];refine⟨λC=>t.sp C.1 B C.2.1 C.2.2,λk f=>?_⟩;have:=t.lk B k f;exact⟨λw=>this.1 (G _ w),λw=>this.2 (G _ w)⟩
  ·grind [Hp.c,cK]
 ·rw[b] at a;rw[(sm q).1];exact h.r8 q a
theorem b6g(x:Hp)(i t:Nat)(c:Cl)(d:i<x.A.length)(g:c.st=(x.c i).st)(f:c.J=(x.c i).J):uD (cK x i c) t=cK (uD x t) i (if eQ x t=true/\t=i then tQ c else c):=by
 have a:=a3i x i c d t
 have b:eQ (cK x i c) t=eQ x t:=by
  unfold eQ whB;rw[a];by_cases e:t=i
  ·rw[if_pos e,e,g,f];rfl
  ·rw[if_neg e];rfl
 unfold uD;rw[b];by_cases q:eQ x t=true
 ·rw[if_pos q,if_pos q,a];by_cases e:t=i
  ·rw[if_pos e,if_pos ⟨q,e⟩,e];simp [cK]
  ·rw[if_neg e,if_neg (λh=>e h.2)];simp only [cK];rw[List.set_comm _ _ (λh=>e h.symm)]
 ·rw[if_neg q,if_neg q,if_neg (λh=>q h.1)]
theorem a4u(a:¬uY x)(t:Nat):uD x t=x:=by grind [uY,uD,a6f]
theorem hU.shade{m:Prop}(h:hU x y m)(t:Nat)(c:t<x.A.length):hU (uD x t) y m:=by
 by_cases a:uY x
 ·refine⟨by rw[(cU x t).2.2.2.2.1];exact h.1,λb=>?_⟩;rw[(dN (a3m x t c _)).1];rcases h.2 b with o | o
  ·exact .inl o
  ·refine .inr ⟨o.1,λd=>?_⟩;have:=d.1;rw[(cU x t).2.2.2.2.2.1] at this;unfold uY at a;omega
 ·rw[a4u a];exact h
theorem Snd.put(h:Snd x)(i k:Nat)(s:i<x.A.length)(W:(x.c i).st=1)(M:¬uE x i)(Y:k<(x.c i).F.length)(y:Wd)(V:hU x y False)(p:Pr)(Z:(p.key=y/\p.val=((x.c i).p k).val)\/(p.val=y/\p.key=((x.c i).p k).key)):Snd (shadeW (cK x i { x.c i with F:=(x.c i).F.set k p }) y):=by
 have K:∀j,j<(x.c i).F.length->({ x.c i with F:=(x.c i).F.set k p }:Cl).p j=if j=k then p else (x.c i).p j:=λj b=>by grind [Hp.c,Cl.p,uE,hU,shadeW,cK]
 have key:∀(z:Hp) (c:Cl),Snd z->z.A.length=x.A.length->(∀q,(z.c q).st=(x.c q).st)->(z.c i).F=(x.c i).F->z.E=x.E->z.I=x.I->z.sub=x.sub->¬uE z i->(∀(u:Wd) (m:Prop),hU x u m->hU z u m)->(uY z->¬hY z y)->c={ z.c i with F:=(x.c i).F.set k p }->Snd (cK z i c):=λz c C D zs zp R S O E B X n=>by
  have Q:∀j,cH z i j↔cH x i j:=λj=>by unfold cH;rw[R,S,O]
  have H:∀j,c.p j=({ x.c i with F:=(x.c i).F.set k p }:Cl).p j:=λj=>by rw[n];rfl
  have U:0<=(z.c i).U/\(z.c i).U<=3:=by
   have P:=C.r2.1 i (by rw[D];exact s);have:=zs i;unfold hJ a2t yV eH yV at P;omega
  refine C.edit ⟨by rw[D];exact s,by rw[zs];exact W,E,by rw[n];exact⟨rfl,rfl,rfl,rfl,rfl,rfl⟩,by rw[n];exact U,by rw[n,zp];simp,λj b=>?_,λg j b=>?_,λA g J=>?_⟩
  ·have f:j<(x.c i).F.length:=by rw[n] at b;simpa using b
   have o:=((h.r4.2 i s).2 j f).2 M;have N:(¬cH z i j)=(¬cH x i j):=propext (not_congr (Q j));rw[N,H j,K j f]
   by_cases e:j=k
   ·grind [Grw.at,Hp.at,Hp.c,uE,hU,Cl.p,shadeW,cK]
   ·rw[if_neg e];exact⟨B _ _ o.1,B _ _ o.2⟩
  ·have o:=(C.r7 g i (by rw[D];exact s)).2 j b
   have f:j<(x.c i).F.length:=by
    unfold hD at b;rw[zp] at b
    split at b
    ·exact b
    ·split at b
     ·rename_i t;have r:=(C.r6.2.1 t.1).2.2 t.2.1;have T:z.g0=i:=by unfold Hp.g0;rw[t.2.2];simp
      rw[T,zp] at r;omega
     ·omega
   have G:(z.c i).p j=(x.c i).p j:=by simp only [Cl.p,zp]
   rw[G] at o;rw[H j,K j f];by_cases e:j=k
   ·grind [Grw.at,Hp.at,Hp.c,uE,hU,Cl.p,shadeW,cK]
   ·rw[if_neg e];exact o
  ·rw[n] at A J;exact λt=>(C.r7 g i (by rw[D];exact s)).1 ⟨A,J,t⟩
 unfold shadeW;by_cases e:(y.k == 2)=true
 ·rw[if_pos e];have L:y.k=2:=by simpa using e
  have v:y.a.toNat<x.A.length:=by have:=V.1;unfold uW at this;omega
  have st:(x.c y.a.toNat).st=1:=by grind [Hp.c,uE,hU,Cl.p,shadeW,cK]
  rw[b6g x i y.a.toNat { x.c i with F:=(x.c i).F.set k p } s rfl rfl];have I:=a3m x y.a.toNat v;refine key (uD x y.a.toNat) _ (h.shade _ v) (cU x _).2.2.2.2.1 (λq=>(dN (I q)).1) (dN (I i)).2.2.2.2.2.2 (cU x _).2.2.2.2.2.1 (cU x _).2.2.2.2.2.2.1 (cU x _).2.2.2.2.2.2.2.1 (λd=>?_) (λu m l=>l.shade _ v) (λg w=>?_) ?_
  ·grind [uY,cU,Grw.at,Hp.at,a4u,Hp.c,uE,hU,Cl.p,shadeW]
  ·have F:uY x:=by unfold uY at g ⊢;rw[(cU x _).2.2.2.2.2.1] at g;exact g
   exact a2c x _ v F st w.2
  ·rw[a6e x _ v i];by_cases q:eQ x y.a.toNat=true/\y.a.toNat=i
   ·rw[if_pos q,if_pos ⟨q.1,q.2.symm⟩,q.2];rfl
   ·rw[if_neg q,if_neg (λh=>q ⟨h.1,h.2.symm⟩)]
 ·rw[if_neg e];have L:y.k≠2:=by simpa using e
  exact key x _ h rfl (λ_=>rfl) rfl rfl rfl rfl M (λ_ _ l=>l) (λ_ w=>L w.1) rfl
theorem Snd.want(h:Snd x)(i:Nat)(a:i<x.A.length)(n:(x.c i).st=1)(s:¬uE x i):Snd (uD (cK x i (tY (x.c i) 1)) i):=by
 rw[b6g x i i (tY (x.c i) 1) a rfl rfl];have o:=a3m x i a i;have r:=a6e x i a i;have j:=h.shade i a;have m:=(cU x i).2.2.2.2.1
 have p:(if eQ x i=true/\i=i then tQ (tY (x.c i) 1) else tY (x.c i) 1)=tY ((uD x i).c i) 1:=by grind [eQ,tQ,tY,Hp.c,uD,uE,cK]
 rw[p];have q:((uD x i).c i).st=1:=by rw[(dN o).1];exact n
 have f:¬uE (uD x i) i:=λd=>by grind [uE,uD,uY,cU,Grw.at,Hp.at,a4u,Hp.c,cK,tY]
 refine j.edit ⟨by rw[m];exact a,q,f,⟨rfl,rfl,rfl,rfl,rfl,rfl⟩,⟨by simp [tY],by simp [tY]⟩,rfl,λk g=>((j.r4.2 i (by rw[m];exact a)).2 k g).2 f,λb k g=>(j.r7 b i (by rw[m];exact a)).2 k g,λ_ b e=>?_⟩;have l:uY x:=by unfold uY at b ⊢;rw[(cU x _).2.2.2.2.2.1] at b;exact b
 exact absurd e (a2c x i a l n)
theorem b3p(x:Hp)(y:Wd):(shadeW x y).born=x.born:=by grind [shadeW,cU]
theorem b2s:∀(ys:List Wd) (z:Hp),(ys.foldl shadeW z).born=z.born
 | [],_=>rfl
 | y::ys,z=>(b2s ys (shadeW z y)).trans (b3p z y)
theorem uborn1(x:Hp):(dC x).born=x.born:=by
 unfold dC
 split
 ·rfl
 ·grind [yZ,Hp.c,SAt.I,Snd.I,cU,dC]
theorem uborn2(x:Hp):(cX x).born=x.born:=by
 unfold cX
 split
 ·grind [b3p,cX]
 ·split
  ·exact b2s x.B x
  ·exact b2s x.B x
theorem uborn3(x:Hp):(cY x).born=x.born:=by
 unfold cY
 split
 ·rfl
 ·split <;> rfl
theorem uborn4(x:Hp):(unit4 x).born=x.born:=by
 unfold unit4
 split <;> rfl
theorem uborn5(x:Hp):(cV x).born=x.born:=by
 unfold cV
 split
 ·rfl
 ·split <;> rfl
theorem uborn6(x:Hp):(hE x).born=x.born:=by
 unfold hE qE
 split
 ·rfl
 ·split <;> rfl
theorem b6m(x:Hp):(cE x).born=x.born:=by grind [cE,zZ.first,uborn1,uborn2,uborn3,uborn4,uborn5,uborn6]
theorem b6n:∀(k:Nat) (x:Hp),(itU k x).born=x.born
 | 0,_=>rfl
 | k+1,x=>by
  first
   | exact(b6n k (cE x)).trans (b6m x)
   | exact(b6m (itU k x)).trans (b6n k x)
theorem b8c{y:Hp}(h:b2g x y):y.born=x.born:=by grind [b2g,b6n]
theorem c1q.bornE{y:Hp}(h:c1q x y):y.born=x.born:=by
 obtain⟨z,a,b⟩:=h;exact(b8c b).trans (show z.born=x.born from b8c a)
theorem a4x.bornE{y:Hp}(h:a4x x u y):y.born=x.born:=by
 rcases h with h | h
 ·rw[h.2]
 ·exact h.2.bornE
theorem b9n.snd{y:Hp}(s:Snd x)(q:b<=255)(l:c<=200)(h:b9n x a b c y cd nm):Snd y:=by
 rcases h.2 with h | ⟨m,z,d,h | h⟩
 ·rw[h.2.1];exact s
 ·rw[h.2.1];exact d.snd s
 ·have i:=d.snd s;have o:=d.bornE;have n:=s.r1.born;have j:z.K+(1+c)<=z.M:=by have e:=h.1;unfold a2q at e;have:=of_decide_eq_true e;omega
  obtain⟨f,k,p,g⟩:=i.make b c (by omega) l (by omega) j;refine h.2.2.snd (f.regTo a ⟨2,0,uV z⟩ ⟨.inr (.inr ⟨rfl,rfl,by show(0:Int)<=(uV z:Nat);omega,by show((uV z:Nat):Int)<_;omega⟩),λ_=>.inr ⟨k,g⟩⟩)
def a3e(x:Hp)(H:Nat->Bool)(k:Nat)(z:Hp):Hp:=
 if H k=true then { z with A:=z.A.set k (b9k x H (x.c k)),K:=z.K-tK x H (x.c k) (x.c k).F,sub:=a6i x H k z.sub }
 else if (x.c k).U=1 then { z with A:=z.A.set k (b7d (x.c k)) } else z
def stTo(x:Hp)(H:Nat->Bool):Nat->Hp
 | 0=>x
 | k+1=>a3e x H k (stTo x H k)
def a2r(x y:Hp):Prop:=x.M=y.M/\x.born=y.born/\x.B=y.B/\x.E=y.E/\x.I=y.I/\x.D=y.D/\x.per=y.per/\x.V=y.V/\x.Q=y.Q/\x.S=y.S
theorem a2r.refl(x:Hp):a2r x x:=by grind [a2r]
theorem hp_eq{y:Hp}(r:a2r x y)(t:x.K=y.K)(u:x.sub=y.sub)(s:x.A.length=y.A.length)(p:∀q,q<x.A.length->x.c q=y.c q):x=y:=by
 have e:x.A=y.A:=List.ext_getElem s λi b d=>by rw[Hp.c_eq x i b,Hp.c_eq y i d];exact p i b
 obtain⟨h,l,g,k,f,o,j,m,n,a⟩:=r;cases x;cases y;simp only at *;subst h l g k f o j m n a t u e;rfl
theorem b2n(x:Hp)(H:Nat->Bool):∀k,a2r (stTo x H k) x
 | 0=>a2r.refl x
 | k+1=>by
  have ih:=b2n x H k;show a2r (a3e x H k (stTo x H k)) x;unfold a3e
  split
  ·exact ih
  ·grind [a2r,stTo]
theorem b6e(x:Hp)(H:Nat->Bool):∀k,a2r (cD x H k) x
 | 0=>a2r.refl x
 | k+1=>by
  have ih:=b6e x H k;unfold cD
  split
  ·exact ih
  ·exact ih
theorem b6f(x z:Hp)(H:Nat->Bool):∀k,a2r (qK x z H k) z/\(qK x z H k).K=z.K/\(qK x z H k).sub=z.sub
 | 0=>⟨a2r.refl z,rfl,rfl⟩
 | k+1=>by
  have ih:=b6f x z H k;unfold qK
  split
  ·exact ih
  ·exact ih
theorem a7v(x:Hp)(H:Nat->Bool):∀k,(stTo x H k).A.length=x.A.length
 | 0=>rfl
 | k+1=>by
  have ih:=a7v x H k;show(a3e x H k (stTo x H k)).A.length=_;unfold a3e
  split
  ·simpa using ih
  ·grind [stTo]
theorem c2i(x:Hp)(H:Nat->Bool):∀k,(stTo x H k).K=(cD x H k).K/\(stTo x H k).sub=(cD x H k).sub
 | 0=>⟨rfl,rfl⟩
 | k+1=>by
  have ih:=c2i x H k;show(a3e x H k (stTo x H k)).K=_/\(a3e x H k (stTo x H k)).sub=_;unfold a3e cD;by_cases h:H k=true
  ·grind [stTo,cD,a6i,Add.sub]
  ·grind [stTo,cD]
theorem set_c(z:Hp)(u s:Int)(k:Nat)(c:Cl)(a:k<z.A.length)(q:Nat):({ z with A:=z.A.set k c,K:=u,sub:=s }:Hp).c q=if q=k then c else z.c q:=Hp.c_set z k c a q
theorem c4y(x:Hp)(H:Nat->Bool):∀k,k<=x.A.length->∀q,(stTo x H k).c q=if q<k then stlC x H q else x.c q
 | 0,_,q=>by rw[if_neg (by omega)];rfl
 | k+1,hk,q=>by
  have ih:=c4y x H k (by omega) q;have hl:k<(stTo x H k).A.length:=by rw[a7v];omega
  show(a3e x H k (stTo x H k)).c q=_
  have key:(a3e x H k (stTo x H k)).c q=if q=k then stlC x H k else (stTo x H k).c q:=by grind [uZ.key,dE.key,a3e,stTo,Hp.c,stlC,set_c,uZ.U,Hp.c_set]
  rw[key,ih];by_cases e:q=k
  ·grind [stTo,Hp.c,stlC]
  ·grind [stTo,Hp.c,stlC]
theorem c2j(x z:Hp)(H:Nat->Bool):∀k,k<=z.A.length->∀q,(qK x z H k).c q=if q<k/\a8x x H q=true then b7d (x.c q) else z.c q
 | 0,_,q=>by rw[if_neg (by omega)];rfl
 | k+1,hk,q=>by
  have ih:=c2j x z H k (by omega) q;have hl:k<(qK x z H k).A.length:=by rw[a4a];omega
  unfold qK;by_cases h:a8x x H k=true
  ·grind [Hp.c_set,qK,b7d,Hp.c,a8x]
  ·grind [a8x,Grw.at,qK,Hp.c,b7d]
theorem d1v(x:Hp)(H:Nat->Bool):stTo x H x.A.length=a4t x H:=by
 have d:=b6f x (cD x H x.A.length) H x.A.length;have c:=b6e x H x.A.length;have s:=b2n x H x.A.length;have u:=c2i x H x.A.length;have E:(cD x H x.A.length).A.length=x.A.length:=a2k x H _;refine hp_eq ?_ (by rw[u.1];exact d.2.1.symm) (by rw[u.2];exact d.2.2.symm) ?_ λq M=>?_
 ·obtain⟨n,D,C,J,f,A,z,k,F,b⟩:=d.1;obtain⟨o,p,t,G,r,K,w,v,h,e⟩:=c;obtain⟨i,L,m,I,j,B,g,y,l,a⟩:=s;exact⟨i.trans (n.trans o).symm,L.trans (D.trans p).symm,m.trans (C.trans t).symm,I.trans (J.trans G).symm,j.trans (f.trans r).symm,B.trans (A.trans K).symm,g.trans (z.trans w).symm,y.trans (k.trans v).symm,l.trans (F.trans h).symm,a.trans (b.trans e).symm⟩
 ·rw[a7v];unfold a4t;rw[a4a,a2k]
 ·grind [a7v,Grw.at,c4y,a4t,c2j,b0y,stlC,a8x,Hp.c,uZ.U]
structure b3w(x z:Hp):Prop where
 hl:z.A.length=x.A.length
 rest:a2r z x
 c:∀q,(z.c q).st=(x.c q).st/\(z.c q).kind=(x.c q).kind/\(z.c q).born=(x.c q).born/\(z.c q).J=(x.c q).J/\(z.c q).to=(x.c q).to
 wk:∀q,(z.c q).T=(x.c q).T\/((x.c q).st=1/\0<=(z.c q).T/\(z.c q).T<=3)
 la:∀q,(z.c q).U=(x.c q).U\/((x.c q).st=1/\0<=(z.c q).U/\(z.c q).U<=3)
 sp:∀q,hQ (z.c q)->hQ (x.c q)
 p:∀q,q<x.A.length->∀k,k<(z.c q).F.length->∃j,j<(x.c q).F.length/\(z.c q).p k=(x.c q).p j/\(cN x=(q:Int)->((k:Int)<z.sub↔(j:Int)<x.sub))
 le:∀q,q<x.A.length->(z.c q).F.length<=(x.c q).F.length
 us:z.K=(units z.A:Nat)
 ul:z.K<=x.K
 s0:0<=z.sub/\z.sub<=x.sub
 s1:∀q,q<x.A.length->cN x=(q:Int)->z.sub<=(z.c q).F.length
theorem b7y(a:x.E=5)(h:x.I<x.A.length):cN x=x.I:=by grind [Snd.I,cN]
theorem b7z(a:x.E=2)(h:0<x.D.length):cN x=x.D.getD 0 0:=by grind [cN]
theorem Snd.thin{x z:Hp}(h:Snd x)(t:b3w x z):Snd z:=by
 obtain⟨P,e2,H,s,A,B,e7,e8,e9,O⟩:=t.rest;have J:∀q,uE z q↔uE x q:=λq=>by unfold uE;rw[s,A,(t.c q).1,(t.c q).2.2.2.1]
 have Q:∀(y:Wd) (m M:Prop),(m->M)->hU x y m->hU z y M:=λy m M C l=>⟨by rw[t.hl];exact l.1,λu=>by
  rw[(t.c _).1,J];rcases l.2 u with o | o
  ·grind
  ·exact .inr o⟩
 have Z:∀y:Wd,hY z y->hY x y:=λy V=>⟨V.1,by rw[<-(t.c _).2.2.2.1];exact V.2⟩
 have K:uY z↔uY x:=by unfold uY;rw[s]
 have s0:=t.s0
 have T:x.D.length≠0->0<=x.D.getD 0 0/\x.D.getD 0 0<x.A.length:=λv=>by
  refine h.r5.2.2 _ ?_;cases L:x.D with
  | nil=>rw[L] at v;simp at v
  | cons g G=>simp
 refine⟨?_,⟨λq f=>?_,λq f h0 k u=>?_⟩,⟨t.us,?_⟩,⟨λi Y=>?_,λq f=>⟨λd=>?_,λk u=>?_⟩⟩,⟨λC=>?_,λq f=>?_,λg v=>?_⟩,⟨λn=>?_,λn=>?_,λn=>?_,λn=>?_⟩,λC q f=>⟨λN=>?_,λk u=>?_⟩,λq f=>?_⟩
 ·have r:=h.r1;exact⟨by rw[P];exact r.M,by rw[H];exact r.B,by rw[t.hl,P];exact r.A,by rw[B,t.hl];exact r.D,by rw[e2];exact r.born,by rw[e9];exact r.Q,by rw[O];exact r.S,by rw[e7];exact r.per,by rw[e8];exact r.V,by rw[s];exact r.E,by rw[A,t.hl];exact r.I,by have:=r.sub;omega⟩
 ·rw[t.hl] at f;have E:=h.r2.1 q f;obtain⟨c1,c2,c3,c4,F⟩:=t.c q;have l:=t.le q f;have wk:=t.wk q;have la:=t.la q;unfold hJ;rcases E with⟨o,b,d⟩ | ⟨o,m⟩ | ⟨o,m⟩
  ·grind [yV,Grw.at]
  ·refine .inr (.inl ⟨by rw[c1];exact o,?_,by rw[s];exact m.2.1,by rw[F];exact m.2.2.1,by rw[F];exact m.2.2.2.1,by rw[F,(t.c _).1];exact m.2.2.2.2.1,λn k u=>?_⟩)
   ·have b:=m.1;unfold yV at b ⊢;omega
   ·rw[(t.c k).1];rw[s] at n;rw[F] at u;exact m.2.2.2.2.2 n k u
  ·grind [a2t,Grw.at]
 ·rw[t.hl] at f;rw[(t.c q).1] at h0;rw[(t.c k).1,(t.c k).2.2.1,(t.c k).2.2.2.2,(t.c q).1,(t.c q).2.2.1,(t.c q).2.2.2.2];exact h.r2.2 q f h0 k u
 ·rw[P];have:=h.r3.2;have:=t.ul;omega
 ·have e:z.B[i]=x.B[i]'(by rw[<-H];exact Y):=by simp only [H]
  rw[e];exact Q _ _ _ id (h.r4.1 i (by rw[<-H];exact Y))
 ·rw[t.hl] at f;exact(h.r4.2 q f).1 ⟨(J q).1 d.1,t.sp q d.2⟩
 ·rw[t.hl] at f;obtain⟨j,U,S,I⟩:=t.p q f k u;have E:=(h.r4.2 q f).2 j U;rw[S]
  have X:cH z q k->cH x q j:=λm=>⟨by rw[<-s];exact m.1,λn=>by grind [cH,Grw.at,b7y]⟩
  refine⟨λd=>?_,λd=>?_⟩
  ·rw[t.hl];exact E.1 ((J q).1 d)
  ·have:=E.2 (λd2=>d ((J q).2 d2));exact⟨Q _ _ _ (λa b=>a (X b)) this.1,Q _ _ _ (λa b=>a (X b)) this.2⟩
 ·rw[B];exact h.r5.1 (λm=>C (K.2 m))
 ·rw[t.hl] at f;have o:=h.r5.2.1 q f;unfold eK at o ⊢;rw[(t.c q).2.2.2.1,B,K,s,A];exact o
 ·rw[B] at v;rw[t.hl];exact h.r5.2.2 g v
 ·rw[s] at n;have:=h.r6.1 n;rw[A];omega
 ·rw[s] at n;have r:=h.r6.2.1 n;rw[A,B];refine⟨r.1,λv=>by have:=r.2.1 v;omega,λv=>?_⟩;have gr:=T v;have e:z.g0=x.g0:=by unfold Hp.g0;rw[B]
  rw[e];refine t.s1 x.g0 (by unfold Hp.g0;omega) ?_;rw[b7z n (by omega)];unfold Hp.g0;omega
 ·rw[s] at n;have r:=h.r6.2.2.1 n;have hh:=h.r1.I;rw[A,t.hl];refine⟨λf=>?_,λf=>?_⟩
  ·rw[(t.c _).1] at f;have:=r.1 f;omega
  ·refine t.s1 _ (by omega) ?_;rw[b7y n (by omega)];omega
 ·rw[s] at n;have:=h.r6.2.2.2 n;omega
 ·rw[t.hl] at f;refine(h.r7 (K.1 C) q f).1 ⟨t.sp q N.1,by rw[<-(t.c q).2.2.2.1];exact N.2.1,?_⟩;have:=N.2.2;rw[s,A] at this;exact this
 ·rw[t.hl] at f;have o:=(h.r7 (K.1 C) q f).2
  have D:k<(z.c q).F.length/\∀j:Nat,(cN x=(q:Int)->((k:Int)<z.sub↔(j:Int)<x.sub))->j<(x.c q).F.length->j<hD x q:=by
   unfold hD at u;rw[(t.c q).2.2.2.1,s,B] at u
   split at u
   ·grind [hD]
   ·rename_i hc
    split at u
    ·rename_i R;have W:cN x=(q:Int):=by rw[b7z R.1 (by omega)];exact R.2.2
     have:=t.s1 q f W;refine⟨by omega,λj I _=>?_⟩;unfold hD;rw[if_neg hc,if_pos R];have:=(I W).1 (by omega);omega
    ·omega
  obtain⟨j,U,S,I⟩:=t.p q f k D.1;rw[S];have:=o j (D.2 j I U);exact⟨λw=>this.1 (Z _ w),λw=>this.2 (Z _ w)⟩
 ·rw[t.hl] at f;rw[s,A,(t.c q).1];exact h.r8 q f
theorem Snd.scan(h:Snd x)(q:Nat)(b:cN x=(q:Int)):x.sub<=(x.c q).F.length:=by
 have f:=h.r6;unfold cN at b
 split at b
 ·rename_i e;have d:=(f.2.1 e.1).2.2 (by omega);have:x.g0=q:=by unfold Hp.g0;rw[b];rfl
  rw[this] at d;exact d
 ·split at b
  ·rename_i e;have a:=f.2.2.1 e.1;have i:x.I.toNat=q:=by omega
   by_cases g:(x.c x.I.toNat).st=1
   ·grind [Grw.at,Hp.at,cN,Hp.c]
   ·have:=a.1 (.inr g);omega
  ·omega
theorem b3w.self(h:Snd x)(i:Nat)(c:Cl)(hi:i<x.A.length)(s1:(x.c i).st=1)(e:c.st=(x.c i).st/\c.kind=(x.c i).kind/\c.born=(x.c i).born/\c.J=(x.c i).J/\c.to=(x.c i).to)(hp:c.F=(x.c i).F)(wk:c.T=(x.c i).T\/(0<=c.T/\c.T<=3))(la:c.U=(x.c i).U\/(0<=c.U/\c.U<=3))(sp:hQ c->hQ (x.c i)):b3w x (cK x i c) where
 hl:=b2o x i c
 rest:=a2r.refl _
 c:=λq=>by rw[a3i x i c hi q];split;(· rename_i t;rw[t];exact e);(· exact⟨rfl,rfl,rfl,rfl,rfl⟩)
 wk:=λq=>by rw[a3i x i c hi q];split;(· rename_i t;rw[t];exact wk.imp id (λu=>⟨s1,u⟩));(· exact .inl rfl)
 la:=λq=>by rw[a3i x i c hi q];split;(· rename_i t;rw[t];exact la.imp id (λu=>⟨s1,u⟩));(· exact .inl rfl)
 sp:=λq=>by rw[a3i x i c hi q];split;(· rename_i t;rw[t];exact sp);(· exact id)
 p:=λq hq k hk=>by grind [Cl.p,a3i,Hp.c,Grw.at,Hp.at,hQ,cK]
 le:=λq hq=>by rw[a3i x i c hi q];split;(· rename_i t;rw[t,hp];exact Nat.le_refl _);(· exact Nat.le_refl _)
 us:=by
  have u:units (cK x i c).A=units x.A:=a3x x.A i c hi (by rw[Hp.c_eq x i hi];unfold hV;rw[e.1,hp]);rw[u];exact h.r3.1
 ul:=Int.le_refl _
 s0:=⟨h.r1.sub.1,Int.le_refl _⟩
 s1:=λq hq hs=>by
  have k:=h.scan q hs;rw[a3i x i c hi q];split
  ·rename_i t;rw[hp,<-t];exact k
  ·exact k
theorem Snd.weakT(h:Snd x)(i:Nat)(a:i<x.A.length)(b:(x.c i).st=1)(n:Int)(d:0<=n/\n<=3):Snd (cK x i (c6e (x.c i) n)):=
 h.thin (b3w.self h i _ a b ⟨rfl,rfl,rfl,rfl,rfl⟩ rfl (.inr d) (.inl rfl) id)
theorem Snd.lastT(h:Snd x)(i:Nat)(a:i<x.A.length)(b:(x.c i).st=1)(n:Int)(e:n=0\/n=3):Snd (cK x i (tY (x.c i) n)):=
 h.thin (b3w.self h i _ a b ⟨rfl,rfl,rfl,rfl,rfl⟩ rfl (.inl rfl) (.inr ⟨by show 0<=n;omega,by show n<=3;omega⟩) (λs=>by have d:n=1\/n=2:=s;omega))
theorem a6n(x:Hp)(i n:Nat)(a:i<x.A.length)(q:Nat):(eD x i n).c q=if q=i then zX (x.c i) n else x.c q:=Hp.c_set x i (zX (x.c i) n) a q
theorem d2r(c:Cl)(n k:Nat)(a:k<(zX c n).F.length):(zX c n).p k=c.p k/\k<n/\k<c.F.length:=by
 have e:(zX c n).F=c.F.take n:=rfl;rw[e,List.length_take] at a;refine⟨?_,by omega,by omega⟩;unfold Cl.p;rw[e];simp [show k<n by omega]
theorem b3w.short(h:Snd x)(i n:Nat)(hi:i<x.A.length)(s1:(x.c i).st=1):b3w x (eD x i n) where
 hl:=by simp [eD]
 rest:=a2r.refl _
 c:=λq=>by rw[a6n x i n hi q];split;(· rename_i t;rw[t];exact⟨rfl,rfl,rfl,rfl,rfl⟩);(· exact⟨rfl,rfl,rfl,rfl,rfl⟩)
 wk:=λq=>by rw[a6n x i n hi q];split;(· rename_i t;rw[t];exact .inl rfl);(· exact .inl rfl)
 la:=λq=>by rw[a6n x i n hi q];split;(· rename_i t;rw[t];exact .inl rfl);(· exact .inl rfl)
 sp:=λq=>by rw[a6n x i n hi q];split;(· rename_i t;rw[t];exact id);(· exact id)
 p:=λq hq k hk=>by grind [Cl.p,a6n,Grw.at,Hp.at,Hp.c,d2r,cN,Add.sub,eD]
 le:=λq hq=>by
  rw[a6n x i n hi q];split
  ·rename_i t;rw[t];show((x.c i).F.take n).length<=_;rw[List.length_take];omega
  ·exact Nat.le_refl _
 us:=by
  have u:=a2e x.A i (zX (x.c i) n) hi;rw[Hp.c_eq x i hi] at u;have e1:hV (x.c i)=1+(x.c i).F.length:=by unfold hV;rw[if_pos s1]
  have e2:hV (zX (x.c i) n)=1+min n (x.c i).F.length:=by grind [hV,zX,Hp.c,eD]
  have h3:=h.r3.1;show x.K-(((x.c i).F.length-n:Nat):Int)=(units (x.A.set i (zX (x.c i) n)):Nat);rw[e1,e2] at u;omega
 ul:=by show x.K-(((x.c i).F.length-n:Nat):Int)<=x.K;omega
 s0:=by
  have:=h.r1.sub;show 0<=(if cN x=(i:Int)/\(n:Int)<x.sub then (n:Int) else x.sub)/\(if cN x=(i:Int)/\(n:Int)<x.sub then (n:Int) else x.sub)<=x.sub
  split <;> omega
 s1:=λq hq hs=>by
  have k:=h.scan q hs;show(if cN x=(i:Int)/\(n:Int)<x.sub then (n:Int) else x.sub)<=_;rw[a6n x i n hi q];by_cases t:q=i
  ·grind [zX,Hp.c,Grw.at,Hp.at,eD]
  ·grind [Hp.c,eD]
theorem Snd.short(h:Snd x)(i n:Nat)(a:i<x.A.length)(b:(x.c i).st=1):Snd (eD x i n):=h.thin (b3w.short h i n a b)
theorem b2t{α:Type}(f:α->Bool)(d:α):∀(l:List α) (k:Nat),k<(l.filter f).length->∃j,j<l.length/\(l.filter f).getD k d=l.getD j d/\∀s,(k<((l.take s).filter f).length↔j<s)
 | [],k,h=>by simp at h
 | a::l,k,h=>by
  cases fa:f a
  ·rw[List.filter_cons_of_neg (by simp [fa])] at h ⊢;obtain⟨j,h1,h2,h3⟩:=b2t f d l k h;refine⟨j+1,by simp;omega,by rw[h2];rfl,λs=>?_⟩;cases s with
   | zero=>simp
   | succ s=>
    rw[List.take_succ_cons,List.filter_cons_of_neg (by simp [fa]),h3 s];omega
  ·rw[List.filter_cons_of_pos fa] at h ⊢;cases k with
   | zero=>
    refine⟨0,by simp,rfl,λs=>?_⟩;cases s with
    | zero=>simp
    | succ s=>rw[List.take_succ_cons,List.filter_cons_of_pos fa];simp
   | succ k=>
    obtain⟨j,h1,h2,h3⟩:=b2t f d l k (by simp at h;exact h);refine⟨j+1,by simp;omega,by exact h2,λs=>?_⟩;cases s with
    | zero=>simp
    | succ s=>
     rw[List.take_succ_cons,List.filter_cons_of_pos fa,List.length_cons];have:=h3 s;omega
theorem Snd.res(h:Snd x){u:Wd}{m:Prop}(k:hU x u m):hU x (eZ x u) False:=by
 unfold eZ
 split
 ·rename_i e;have g:u.a.toNat<x.A.length:=by rcases k.1 with f | f | f <;> omega
  rcases h.r2.1 _ g with⟨a,_⟩ | ⟨_,b⟩ | ⟨a,_⟩
  ·have:=e.2;omega
  ·obtain⟨n,l,i,o,j,_⟩:=b;exact⟨.inr (.inr ⟨rfl,rfl,i,show(x.c u.a.toNat).to<_ by omega⟩),λ_=>.inr ⟨j,λd=>by have:=d.1;omega⟩⟩
  ·have:=e.2;omega
 ·grind [hU,eZ]
theorem Snd.half(h:Snd x)(i k:Nat)(a:i<x.A.length)(b:¬uE x i)(d:k<(x.c i).F.length):hU x (eZ x ((x.c i).p k).key) False/\hU x (eZ x ((x.c i).p k).val) False:=
 let q:=((h.r4.2 i a).2 k d).2 b
 ⟨h.res q.1,h.res q.2⟩
theorem DoR.sndA{n:Int}{y:Hp}(s:Snd x)(q:a<16)(o:k≠1->k≠23->b<16)(D:k=23->b<=64/\c<=4000)(w:k=11->c<=3)(u:k=12->c<=1)(v:k≠1/\k≠9/\k≠18)(h:DoR x a b c n y cd nm k):Snd y:=by
 unfold DoR at h
 split at h
 ·exact absurd rfl v.1
 ·rw[h.1];exact s.regTo a _ ⟨.inr (.inl ⟨rfl,rfl⟩),λe=>by cases e⟩
 ·rw[h.1];exact s.regTo a _ ⟨.inl ⟨rfl,rfl,rfl⟩,λe=>by cases e⟩
 ·rw[h.1];exact s.regTo a _ (s.reg b (o (by omega) (by omega)))
 ·have f:=o (by omega) (by omega);rcases h with h | h | h
  ·rw[h.2.1];exact s
  ·rw[h.2.2.1];exact s
  ·obtain⟨_,_,g,_,l⟩:=s.at b f h.1;rw[h.2.2.1];exact s.regTo a _ (s.half _ c g l h.2.1).1
 ·have f:=o (by omega) (by omega);rcases h with h | h | h
  ·rw[h.2.1];exact s
  ·rw[h.2.2.1];exact s
  ·obtain⟨_,_,g,_,l⟩:=s.at b f h.1;rw[h.2.2.1];exact s.regTo a _ (s.half _ c g l h.2.1).2
 ·have f:=o (by omega) (by omega);rcases h with h | h | h
  ·rw[h.2.1];exact s
  ·rw[h.2.2.1];exact s
  ·obtain⟨_,_,g,m,l⟩:=s.at a q h.1;rw[h.2.2.1];exact s.put _ c g m l h.2.1 _ (s.reg b f) ⟨x.r b,((x.c (x.at a)).p c).val⟩ (.inl ⟨rfl,rfl⟩)
 ·have f:=o (by omega) (by omega);rcases h with h | h | h
  ·rw[h.2.1];exact s
  ·rw[h.2.2.1];exact s
  ·obtain⟨_,_,g,m,l⟩:=s.at a q h.1;rw[h.2.2.1];exact s.put _ c g m l h.2.1 _ (s.reg b f) ⟨((x.c (x.at a)).p c).key,x.r b⟩ (.inr ⟨rfl,rfl⟩)
 ·exact absurd rfl v.2.1
 ·rcases h with h | h
  ·rw[h.2.1];exact s
  ·obtain⟨_,_,g,m,l⟩:=s.at a q h.1;rw[h.2.1];exact s.short _ c g m
 ·rcases h with h | h
  ·rw[h.2.1];exact s
  ·obtain⟨_,_,g,m,l⟩:=s.at a q h.1;have:=w rfl;rw[h.2.1];exact s.weakT _ g m c (by omega)
 ·rcases h with h | h
  ·rw[h.2.1];exact s
  ·obtain⟨_,_,g,m,l⟩:=s.at a q h.1;have:=u rfl;rw[h.2.1]
   split
   ·grind [Snd.want,DoR,Hp.c]
   ·grind [Snd.lastT,Hp.c,DoR]
 ·rw[h.1];exact s
 ·rw[h.1];exact s
 ·rw[h.1];exact s
 ·rcases h with h | h
  ·rw[h.2.1];exact s
  ·rw[h.2.1];exact s
 ·rcases h with h | h
  ·rw[h.2.1];exact s
  ·rw[h.2.1];exact s
 ·exact absurd rfl v.2.2
 ·rcases h.2 with h | ⟨i,h⟩
  ·rw[h.2.1];exact s.regTo a _ ⟨.inl ⟨rfl,rfl,rfl⟩,λe=>by cases e⟩
  ·obtain⟨t,A⟩:i<x.A.length/\(x.c i).U=2:=by
    rcases h.1 with d | ⟨j,e,E,F,_⟩
    ·have:=d.1;omega
    ·grind [DoR,Hp.c]
   have z:=a0a s.r2 i t (.inr A);have B:¬uE x i:=λd=>(s.r4.2 i t).1 ⟨d,.inr A⟩
   have C:=s.lastT i t z 3 (.inr rfl);rw[h.2.1];refine C.regTo a _ ⟨.inr (.inr ⟨rfl,rfl,by show(0:Int)<=(i:Int);omega,by show(i:Int)<((cK x i (tY (x.c i) 3)).A.length:Nat);rw[b2o];omega⟩),λ_=>.inr ?_⟩;show((cK x i (tY (x.c i) 3)).c i).st=1/\¬uE (cK x i (tY (x.c i) 3)) i;unfold uE;rw[a3i x i _ t i,if_pos rfl];exact⟨z,B⟩
 ·rw[h.1];exact s
 ·rw[h.1];exact s
 ·obtain⟨_,_,k,_,e⟩:=h;rw[e];exact(s.stepH _).itU k
 ·grind [paceTo,Snd.paceTo,DoR,Hp.c]
 ·exact h.2.2.snd s
 ·exact h.elim
theorem wd_eq0(a b:Wd)(w:World):(Op.equalIn 10000 152 (.agg #[iv a.k,iv a.n,iv a.a]) (.agg #[iv b.k,iv b.n,iv b.a])).run prog w=.ok (wdB a b) w:=by
 rw[run_equalIn_struct w 9999 _ _ _ (by kernel_rfl) (by kernel_rfl)];simp [go_sem,wdB]
 repeat' split
 all_goals simp_all
theorem wd_eq(a b:Wd)(w:World):(binOp .eql 152 (.agg #[iv a.k,iv a.n,iv a.a]) (.agg #[iv b.k,iv b.n,iv b.a])).run prog w=.ok (.bool (wdB a b)) w:=by
 rw[run_eql_struct,wd_eq0];rfl
end Go.Proofs.YtddkhnclmeikfaaGreat
