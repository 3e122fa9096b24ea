import Derived.Test.YtgkpaibbdkggiaaGreatDoorSg
set_option maxRecDepth 100000
set_option maxHeartbeats 8000000
namespace Go.Proofs.YtgkpaibbdkggiaaGreatDoor
open Go.RowKit Tryz
attribute [local go_sem ↓] Go.wp_at_zero Go.wp_at_succ
variable{x y z:Hp}{w w' w1:World}{B kr kc g br bc c a i k j b kg bs kn bn hd f:Nat}{ar ac ag an:Option Addr}{vg v v' v4 v8 vf vk:Value}{T L0 L T' F:List Int}{pb pk role cB cO:Nat->Nat}{pa:Nat->Option Addr}{cd nm n cd' nm' m op wk:Int}{p:Pr}{K:List Nat}{P:Nat->Prop}{l:List Pr}
def a6a(w:World)(x:Hp)(ac:Option Addr):Prop:=∀i,i<x.A.length->∀bc oc ad l c,ac=some ⟨bc,oc,none⟩->w.cell? ⟨bc,oc+i*8+7,none⟩=some (.slice ad l c)->l<=c\/l=0
theorem a6a.ext(h:a6a w x ac)(j:HAt w b x ar kr ac kc ag kg)(e:Ext w w'):a6a w' x ac:=λi a n m ad l c d f=>by
 have⟨q,k,o,p,g,C⟩:=j.cell i a;rw[d]at g;cases g;have:=(C.ext e).p7;rw[this]at f;cases f;exact h i a _ _ _ _ _ d C.p7
theorem a8x(h:R4 x)(m:uD x)(i k:Nat)(f:i<x.A.length)(g:k<(x.c i).F.length):
  (uJ ((x.c i).p k).key x.A.length/\uJ ((x.c i).p k).val x.A.length)/\(hwB x ((x.c i).p k).key=true↔eQ x ((x.c i).p k).key)/\(hwB x ((x.c i).p k).val=true↔eQ x ((x.c i).p k).val):=by
 have b:∀j,¬uW x j:=λj d=>by have:=d.1;unfold uD at m;omega
 have l:cN x i k:=⟨by unfold uD at m;omega,λe=>by unfold uD at m;omega⟩;have a:=((h.2 i f).2 k g).2 (b i);have key:∀y:Wd,hE x y (¬cN x i k)->(hwB x y=true↔eQ x y):=λy n=>by grind[hE,cN,hwB,eQ,tH,R4,uD,Hp.c,uJ,Cl.p]
 exact⟨⟨a.1.1,a.2.1⟩,key _ a.1,key _ a.2⟩
theorem a0u(b:R2 x)(i:Nat)(a:i<x.A.length)(h:dH (x.c i)):(x.c i).st=1:=by grind[R2,uZ.A,QFr.A,dH,Hp.c,cQ,qD,a5d]
def R7b(x:Hp):Prop:=
 (∀i,i<x.A.length->¬(a0p (x.c i)=true/\tH (x.c i)=true/\(x.E=2\/(i:Int)<x.I))/\((x.c i).J=2->¬∃k,k<(x.c i).F.length/\(hwB x ((x.c i).p k).key=true\/hwB x ((x.c i).p k).val=true)))
def R7c(x:Hp):Prop:=x.E=2->x.D.length≠0->∀k:Nat,k<x.sub.toNat->¬(hwB x ((x.c x.g0).p k).key=true\/hwB x ((x.c x.g0).p k).val=true)
theorem g0_ok(b:R5 x)(h:x.D.length≠0):x.g0<x.A.length/\x.D.getD 0 0=(x.g0:Int)/\(x.c x.g0).J=1:=by
 have a:x.D.getD 0 0∈x.D:=a3s x.D 0 (by omega);have:=((a8v x).1 b).2.2.2.1 _ a;unfold Hp.g0;refine⟨?_,?_,this.2⟩<;>omega
theorem R7_iff(v:R2 x)(u:R4 x)(t:R5 x)(y:R6 x)(m:uD x):R7 x↔R7b x/\R7c x:=by
 have q:=λi k f d=>a8x u m i k f d
 have l:x.E=2->x.D.length≠0->x.sub<=(x.c x.g0).F.length:=λp g=>(y.2.1 p).2.2 g
 constructor;intro h;have h:=h m;refine⟨λi f=>⟨λ⟨a,b,c⟩=>?_,λo ⟨k,d,s⟩=>?_⟩,λp g k d s=>?_⟩
 ·grind[a2z,Hp.c,tH,R2,R4,R5,R6,uD,R7,R7b]
 grind[eZ,R2,R4,R5,R6,uD,R7,R7b,R7c];grind[g0_ok,Cl.p,Hp.c,Hp.g0,eZ,R2,R4,R5,R6,uD];intro⟨hb,o⟩ _ i f;refine⟨λ⟨a,b,c⟩=>(hb i f).1 ⟨a2z.2 a,?_,c⟩,λk d=>?_⟩
 ·unfold tH;simp;exact⟨a0u v i f a,b⟩
 unfold eZ at d;by_cases r:(x.c i).J=2
 ·grind[R2,R4,R5,R6,uD,R7,R7b,R7c]
 rw[if_neg r]at d;by_cases e:x.E=2/\x.D.length≠0/\x.D.getD 0 0=(i:Int)
 ·rw[if_pos e]at d;have⟨B,C,z⟩:=g0_ok t e.2.1;have n:i=x.g0:=by have:=e.2.2;omega
  have A:=l e.1 e.2.1;have j:k<(x.c i).F.length:=by rw[n];omega
  have:=o e.1 e.2.1 k d;rw[<-n]at this;exact⟨λw=>this (.inl ((q i k f j).2.1.2 w)),λw=>this (.inr ((q i k f j).2.2.2 w))⟩
 rw[if_neg e]at d;omega
def SK(c:Cl):Prop:=c.T≠1/\c.T≠3
def SV(c:Cl):Prop:=c.T≠2/\c.T≠3
def qX(x:Hp)(i:Nat):Prop:=∀P:Nat->Prop,(∀k (h:k<x.B.length),x.B[k].k=2->P (tgt x x.B[k]))->(∀i,i<x.A.length->(x.c i).U=2->P i)->
 (∀j p,P j->p<(x.c j).F.length->SK (x.c j)->((x.c j).p p).key.k=2->P (tgt x ((x.c j).p p).key))->
 (∀j p,P j->p<(x.c j).F.length->SV (x.c j)->(((x.c j).p p).key.k=2->P (tgt x ((x.c j).p p).key))->((x.c j).p p).val.k=2->P (tgt x ((x.c j).p p).val))->P i
theorem qX.reg(k:Nat)(h:k<x.B.length)(b:x.B[k].k=2):qX x (tgt x x.B[k]):=λ_ a _ _ _=>a k h b
theorem qX.due(i:Nat)(a:i<x.A.length)(h:(x.c i).U=2):qX x i:=λ_ _ b _ _=>b i a h
theorem qX.key(j p:Nat)(h:qX x j)(f:p<(x.c j).F.length)(g:SK (x.c j))(e:((x.c j).p p).key.k=2):qX x (tgt x ((x.c j).p p).key):=λP a b c d=>c j p (h P a b c d) f g e
theorem qX.val(j p:Nat)(h:qX x j)(i:p<(x.c j).F.length)(l:SV (x.c j))(g:((x.c j).p p).key.k=2->qX x (tgt x ((x.c j).p p).key))(f:((x.c j).p p).val.k=2):qX x (tgt x ((x.c j).p p).val):=λP a b c d=>d j p (h P a b c d) i l (λe=>g e P a b c d) f
theorem qX.reached(f:R2 x)(h:qX x i):cU x i:=
 h (cU x) (λk h a=>cU.reg k h a) (λi d e=>cU.U i d (a0u f i d (.inr e)) (.inr e)) (λj p b c _ a=>cU.key j p b c a) (λj p b c _ _ a=>cU.val j p b c a)
theorem qX.good(a:R2 x)(b:R4 x)(h:qX x i):Good x i:=(h.reached a).good a b
def a8o(x:Hp)(L:List Int):Prop:=∀z,z∈L->∃i:Nat,z=(i:Int)/\qX x i
theorem a8o.add{y:Wd}{L':List Int}(h:a8o x L)(a:Add x y L L')(b:y.k=2->qX x (tgt x y)):a8o x L':=by grind[a8o,Add,qX,tgt,Add.new]
def c1d(x:Hp)(k:Nat)(L:List Int):Prop:=∀i,i<k->i<x.A.length->(x.c i).U=2->(i:Int)∈L
def tN(x:Hp)(L0:List Int)(j k:Nat)(T:List Int):Prop:=∀p,p<k->(SK (x.c j)->((x.c j).p p).key.k=2->(tgt x ((x.c j).p p).key:Int)∈T)/\(SV (x.c j)->(((x.c j).p p).key.k=2->(tgt x ((x.c j).p p).key:Int)∈L0)->((x.c j).p p).val.k=2->(tgt x ((x.c j).p p).val:Int)∈T)
theorem tN.mono(h:tN x L0 j k T)(s:∀z,z∈T->z∈T'):tN x L0 j k T':=by grind[tN,Cl.p]
def ClH(x:Hp)(L0:List Int)(c:Nat)(T:List Int):Prop:=∀q,q<c->tN x L0 (it T q).toNat (x.c (it T q).toNat).F.length T
theorem ClH.add{y:Wd}(h:ClH x L0 c T)(a:Add x y T T')(g:c<=T.length):ClH x L0 c T':=λq d=>by
 have⟨R,e⟩:=a.pre;have f:it T' q=it T q:=e▸b1q (by omega);rw[f];exact(h q d).mono (λz b=>a.sub b)
structure kD(x:Hp)(L0:List Int)(c:Nat)(T:List Int):Prop where
 o:a8o x T
 r:a4b x x.B.length T
 d:c1d x x.A.length T
 e:∃R,T=L0++R
 c:ClH x L0 c T
theorem kD.add{y:Wd}(h:kD x L0 c T)(a:Add x y T T')(p:c<=T.length)(q:y.k=2->qX x (tgt x y)):kD x L0 c T':=
 ⟨h.o.add a q,λj g f e=>a.sub (h.r j g f e),λi b n e=>a.sub (h.d i b n e),by
  have⟨R,e⟩:=h.e;have⟨m,l⟩:=a.pre;exact⟨R++m,by rw[l,e,my]⟩,h.c.add a p⟩
theorem kD.step(h:kD x L0 c T)(e:it T c=(j:Int))(k:tN x L0 j (x.c j).F.length T):kD x L0 (c+1) T:=
 ⟨h.o,h.r,h.d,h.e,λq a=>by
  by_cases f:q=c;subst f;rw[e];simpa using k;exact h.c q (by omega)⟩
structure c1e(x:Hp)(n:Int)(L:List Int):Prop where
 o:a8o x L
 r:a4b x x.B.length L
 d:c1d x x.A.length L
 b:-1<=n/\n<=L.length
 c:n=L.length->ClH x L L.length L
theorem c1e.begin(h:c1e x n L):kD x L 0 L:=⟨h.o,h.r,h.d,⟨[],by simp⟩,λq a=>by omega⟩
theorem kD.rest(h:kD x L0 T.length T):c1e x L0.length T:=by
 have⟨R,e⟩:=h.e;refine⟨h.o,h.r,h.d,⟨by omega,by rw[e];simp;omega⟩,λf=>?_⟩;have:R=[]:=by
  have:(T.length:Int)=L0.length+R.length:=by rw[e];simp
  exact nw.1 (by omega)
 have a:T=L0:=by rw[e,this];simp
 have:=h.c;rw[<-a]at this;exact this
theorem c1e.done(h:c1e x L.length L)(i:Nat):(i:Int)∈L↔qX x i:=by
 constructor;intro q;have⟨j,e,f⟩:=h.o _ q;have:i=j:=by omega
 rw[this];exact f;intro q;have n:∀j:Nat,(j:Int)∈L->tN x L j (x.c j).F.length L:=λj f=>by
  have⟨q,s,e⟩:=mQ f;have:=h.c rfl q s;rw[<-b2m L q s,e]at this;simpa using this
 exact q (λi=>(i:Int)∈L) (λk a e=>h.r k a a e) (λi m e=>h.d i m m e) (λj p b g l a=>(n j b p g).1 l a) (λj p b g l t a=>(n j b p g).2 l t a)
def tX(x:Hp)(H:Nat->Bool)(y:Wd):Bool:=(zL x y).k == 2 && !H (zL x y).a.toNat
def wkB(c:Cl):Bool:=c.T == 1 || c.T == 3
def wvB(c:Cl):Bool:=c.T == 2 || c.T == 3
def goB(x:Hp)(H:Nat->Bool)(c:Cl)(p:Pr):Bool:=(wkB c && tX x H p.key) || (wvB c && tX x H p.val)
def a5p(x:Hp)(H:Nat->Bool)(c:Cl)(l:List Pr):List Pr:=l.filter (λp=>!goB x H c p)
def qC(x:Hp)(H:Nat->Bool)(c:Cl)(l:List Pr):Nat:=(l.filter (λp=>goB x H c p)).length
theorem a4w(x:Hp)(H:Nat->Bool)(c:Cl)(l:List Pr):(a5p x H c l).length+qC x H c l=l.length:=by
 unfold a5p qC;induction l with
 | nil=>rfl
 | cons p l ih=>
  cases h:goB x H c p <;> simp[h] <;> omega
theorem c1f(x:Hp)(H:Nat->Bool)(c:Cl)(a b:List Pr):qC x H c (a++b)=qC x H c a+qC x H c b:=by simp[qC]
def uV(x:Hp):Int:=if x.E=2/\0<x.D.length then x.D.getD 0 0 else if x.E=5/\x.I<x.A.length then x.I else -1
def a7c(x:Hp)(H:Nat->Bool)(c:Cl):Cl:={ c with F:=a5p x H c c.F }
def zW(x:Hp)(H:Nat->Bool)(i:Nat)(s:Int):Int:=if uV x=(i:Int) then s-qC x H (x.c i) ((x.c i).F.take s.toNat) else s
def cY(x:Hp)(H:Nat->Bool):Nat->Hp
 | 0=>x
 | k+1=>if H k=true then { cY x H k with A:=(cY x H k).A.set k (a7c x H (x.c k)),K:=(cY x H k).K-qC x H (x.c k) (x.c k).F,sub:=zW x H k (cY x H k).sub } else cY x H k
def qJ(x:Hp)(H:Nat->Bool):Nat->Nat
 | 0=>0
 | k+1=>if H k=true then qJ x H k+qC x H (x.c k) (x.c k).F else qJ x H k
def kW(x:Hp)(H:Nat->Bool)(i:Nat):Bool:=!H i && (x.c i).U == 1
def b5b(c:Cl):Cl:={ c with U:=2 }
def zY(x z:Hp)(H:Nat->Bool):Nat->Hp
 | 0=>z
 | k+1=>if kW x H k=true then { zY x z H k with A:=(zY x z H k).A.set k (b5b (x.c k)) } else zY x z H k
def kE(x:Hp)(H:Nat->Bool):Nat->Nat
 | 0=>0
 | k+1=>if kW x H k=true then kE x H k+1 else kE x H k
def a1u(x:Hp)(H:Nat->Bool):Hp:=zY x (cY x H x.A.length) H x.A.length
def stlC(x:Hp)(H:Nat->Bool)(i:Nat):Cl:=if H i=true then a7c x H (x.c i) else if (x.c i).U=1 then b5b (x.c i) else x.c i
theorem a2c(x:Hp)(H:Nat->Bool):∀k,(cY x H k).A.length=x.A.length
 | 0=>rfl
 | k+1=>by
  unfold cY;split;simp[a2c x H k];exact a2c x H k
theorem b0f(x:Hp)(H:Nat->Bool):∀k,k<=x.A.length->∀q,(cY x H k).c q=if q<k/\H q=true then a7c x H (x.c q) else x.c q
 | 0,_,q=>by rw[if_neg (by omega)];rfl
 | k+1,hk,q=>by
  have ih:=b0f x H k (by omega) q;unfold cY;by_cases h:H k=true;grind[Hp.c_set,cY,a7c,Hp.c,a2c,uZ.A,QFr.A,yQ.set,Nf1.set,qC];grind[cY,Hp.c,a7c]
def qV(x:Hp)(k:Nat)(r:Int):Prop:=(r = -1/\∀i,i<k->(x.c i).U≠2)\/∃i:Nat,r=(i:Int)/\i<k/\(x.c i).U=2/\∀j,j<k->(x.c j).U=2->(x.c i).born<=(x.c j).born
def c6n(x:Hp)(r:Int):Prop:=(qU x 0/\qV x x.A.length r)\/(¬qU x 0/\r = -1)
theorem born_eq(d:R2 x)(g:a<x.A.length)(f:b<x.A.length)(i:(x.c a).U=2)(h:(x.c b).U=2)(e:(x.c a).born=(x.c b).born):a=b:=by
 have l:=a0u d a g (.inr i);have m:=a0u d b f (.inr h);have k:(x.c a).to=0:=by obtain z|z|z:=d.1 a g;omega;omega;exact z.2.2.2.2.2.2.1
 have j:(x.c b).to=0:=by obtain z|z|z:=d.1 b f;omega;omega;exact z.2.2.2.2.2.2.1
 obtain q|q|q:=nY a b;exact(d.2 b f (by omega) a q ⟨by omega,by omega,by omega⟩).elim;exact q;exact(d.2 a g (by omega) b q ⟨by omega,by omega,by omega⟩).elim
theorem c6n.uniq{r s:Int}(h:c6n x r)(k:c6n x s):r=s:=by
 obtain⟨h,p⟩|⟨h,e⟩:=h <;> obtain⟨k,q⟩|⟨k,f⟩:=k
 obtain⟨p,n⟩|⟨i,p,hi,di,mi⟩:=p <;> obtain⟨q,m⟩|⟨j,q,hj,dj,mj⟩:=q
 ·omega
 exact(n j hj dj).elim;exact(m i hi di).elim;have:=mi j hj dj;have:=mj i hi di;have:=born_eq h.all.2.1 hi hj di dj (by omega);omega;exact(k h).elim;exact(h k).elim;omega
theorem qV.no{r:Int}(h:qV x k r)(a:(x.c k).U≠2):qV x (k+1) r:=by grind[qV,Hp.c]
theorem qV.first(h:qV x k (-1))(a:(x.c k).U=2):qV x (k+1) k:=by grind[qV,Hp.c]
theorem qV.less(h:qV x k i)(b:(x.c k).U=2)(e:(x.c k).born<(x.c i).born):qV x (k+1) k:=by
 obtain⟨h,n⟩|⟨i',h,hi,di,mi⟩:=h;omega;obtain rfl:i'=i:=by omega
 exact .inr ⟨k,rfl,by omega,b,λj d a=>by obtain q|q:=(by omega:j<k\/j=k);have:=mi j q a;omega;subst q;omega⟩
theorem qV.more(h:qV x k i)(b:(x.c i).born<=(x.c k).born):qV x (k+1) i:=by
 obtain⟨h,n⟩|⟨i',h,hi,di,mi⟩:=h;omega;obtain rfl:i'=i:=by omega
 exact .inr ⟨i',rfl,by omega,di,λj d a=>by obtain q|q:=(by omega:j<k\/j=k);exact mi j q a;subst q;exact b⟩
theorem qV.form{r:Int}(h:qV x k r):r = -1\/∃i:Nat,r=(i:Int)/\i<k:=by grind[qV,eX.form]
def Wd0:Wd:=⟨0,0,0⟩
def Hp.r(x:Hp)(i:Nat):Wd:=x.B.getD i Wd0
theorem Hp.r_eq(x:Hp)(i:Nat)(h:i<x.B.length):x.B[i]=x.r i:=by simp[Hp.r,h]
def Hp.at(x:Hp)(i:Nat):Nat:=(x.r i).a.toNat
def keyC(c:Cl)(k:Nat)(y:Wd):Cl:={ c with F:=c.F.set k ⟨y,(c.p k).val⟩ }
def valC(c:Cl)(k:Nat)(y:Wd):Cl:={ c with F:=c.F.set k ⟨(c.p k).key,y⟩ }
def hD(x:Hp)(i:Nat)(c:Cl):Hp:={ x with A:=x.A.set i c }
def zN(c:Cl)(n:Nat):Cl:={ c with F:=c.F.take n }
def qH(x:Hp)(i n:Nat):Hp:={ x with A:=x.A.set i (zN (x.c i) n),K:=x.K-((x.c i).F.length-n:Nat),sub:=if uV x=(i:Int)/\(n:Int)<x.sub then n else x.sub }
def b5c(c:Cl)(n:Int):Cl:={ c with T:=n }
def qE(c:Cl)(n:Int):Cl:={ c with U:=n }
def a1q(x:Hp)(f c:Nat)(y:Hp)(cd nm:Int)(R:Nat->Prop):Prop:=
 ((x.r f).k≠2/\y=x/\cd=2/\nm=0)\/((x.r f).k=2/\(x.c (x.at f)).F.length<=c/\y=x/\cd=3/\nm=0)\/((x.r f).k=2/\c<(x.c (x.at f)).F.length/\R (x.at f)/\cd=0/\nm=0)
def a0z(x:Hp)(f:Nat)(y:Hp)(cd nm:Int)(R:Nat->Prop):Prop:=((x.r f).k≠2/\y=x/\cd=2/\nm=0)\/((x.r f).k=2/\R (x.at f))
def a7d(x:Hp)(a b c:Nat)(y:Hp)(cd nm:Int):Prop:=nm=0/\
 ((x.born=1000000000/\y=x/\cd=4)\/(x.born≠1000000000/\∃z,tY x (1+c) z/\((zV z (1+c)=false/\y=z/\cd=4)\/(zV z (1+c)=true/\cd=0/\tL (regTo (tW z b c) a ⟨2,0,uE z⟩) (1+c) y))))
def a7e(x:Hp)(a c i:Nat)(y:Hp)(cd nm:Int):Prop:=nm=0/\
 ((200<(x.c i).F.length+c/\y=x/\cd=5)\/((x.c i).F.length+c<=200/\∃z,tY x c z/\((zV z c=false/\y=z/\cd=4)\/(zV z c=true/\cd=0/\tL (zJ z (z.at a) c) c y))))
def wdB(a b:Wd):Bool:=a.k == b.k && (a.n == b.n && a.a == b.a)
def c1h(x:Hp)(P:Nat->Prop)(nm:Int):Prop:=∃p:Nat->Bool,(∀i,p i=true↔P i)/\nm=(kH x p x.A.length:Nat)
def b5d(x:Hp)(a:Nat)(y:Hp)(nm:Int):Prop:=(qV x x.A.length (-1)/\y=regTo x a Wd0/\nm=0)\/∃i:Nat,qV x x.A.length (i:Int)/\y=regTo (hD x i (qE (x.c i) 3)) a ⟨2,0,i⟩/\nm=1
def DoR(x:Hp)(a b c:Nat)(n:Int)(y:Hp)(cd nm:Int):Nat->Prop
 | 1=>a7d x a b c y cd nm
 | 2=>y=regTo x a ⟨1,n,0⟩/\cd=0/\nm=0
 | 3=>y=regTo x a Wd0/\cd=0/\nm=0
 | 4=>y=regTo x a (x.r b)/\cd=0/\nm=0
 | 5=>a1q x b c y cd nm λi=>y=regTo x a (zL x ((x.c i).p c).key)
 | 6=>a1q x b c y cd nm λi=>y=regTo x a (zL x ((x.c i).p c).val)
 | 7=>a1q x a c y cd nm λi=>y=uX (hD x i (keyC (x.c i) c (x.r b))) (x.r b)
 | 8=>a1q x a c y cd nm λi=>y=uX (hD x i (valC (x.c i) c (x.r b))) (x.r b)
 | 9=>a0z x a y cd nm λi=>a7e x a c i y cd nm
 | 10=>a0z x a y cd nm λi=>y=qH x i c/\cd=0/\nm=0
 | 11=>a0z x a y cd nm λi=>y=hD x i (b5c (x.c i) c)/\cd=0/\nm=0
 | 12=>a0z x a y cd nm λi=>y=(if c=1 then uK (hD x i (qE (x.c i) c)) i else hD x i (qE (x.c i) c))/\cd=0/\nm=0
 | 13=>y=x/\cd=0/\nm=if wdB (x.r a) (x.r b)=true then 1 else 0
 | 14=>y=x/\cd=0/\nm=(x.r a).k
 | 15=>y=x/\(((x.r a).k≠1/\cd=2/\nm=0)\/((x.r a).k=1/\cd=0/\nm=(x.r a).n))
 | 16=>a0z x a y cd nm λi=>y=x/\cd=0/\nm=(x.c i).kind
 | 17=>a0z x a y cd nm λi=>y=x/\cd=0/\nm=((x.c i).F.length:Nat)
 | 18=>cd=0/\∃H:Nat->Bool,(∀i,H i=true↔qX x i)/\y=a1u x H/\nm=(kE x H x.A.length:Nat)
 | 19=>cd=0/\b5d x a y nm
 | 20=>y=x/\cd=0/\c1h x (qX x) nm
 | 21=>y=x/\cd=0/\c1h x (cU x) nm
 | 22=>cd=0/\nm=0/\∃k,a2f (stepH x c) c k/\y=itU k (stepH x c)
 | 23=>y=paceTo x b c/\cd=0/\nm=0
 | 24=>cd=0/\nm=0/\a9y x y
 | _=>False
def gU(x:Hp)(op a b c n:Int)(y:Hp)(cd nm:Int):Prop:=(zC op a b c n=false/\y=x/\cd=1/\nm=0)\/(zC op a b c n=true/\DoR x a.toNat b.toNat c.toNat n y cd nm op.toNat)
theorem a1q.uniq{u:Nat->Hp}(h:a1q x f c y cd nm λi=>y=u i)(k:a1q x f c z cd' nm' λi=>z=u i):y=z/\cd=cd'/\nm=nm':=by
 unfold a1q at h k;obtain⟨h1,h2,h3,h4⟩|⟨h1,h2,h3,h4,h5⟩|⟨h1,h2,h3,h4,h5⟩:=h <;> obtain⟨k1,k2,k3,k4⟩|⟨k1,k2,k3,k4,k5⟩|⟨k1,k2,k3,k4,k5⟩:=k <;> first|(exfalso;omega)|(subst_vars;exact⟨rfl,rfl,rfl⟩)
theorem a0z.uniq{u:Nat->Hp}{cu nu:Nat->Int}(h:a0z x f y cd nm λi=>y=u i/\cd=cu i/\nm=nu i)(k:a0z x f z cd' nm' λi=>z=u i/\cd'=cu i/\nm'=nu i):y=z/\cd=cd'/\nm=nm':=by
 unfold a0z at h k;obtain⟨h1,h2,h3,h4⟩|⟨h1,h2,h3,h4⟩:=h <;> obtain⟨k1,k2,k3,k4⟩|⟨k1,k2,k3,k4⟩:=k <;> first|exact absurd h1 k1|exact absurd k1 h1|(subst_vars;exact⟨rfl,rfl,rfl⟩)
theorem a7d.uniq(h:a7d x a b c y cd nm)(k:a7d x a b c z cd' nm'):y=z/\cd=cd'/\nm=nm':=by
 have⟨d,h⟩:=h;have⟨f,k⟩:=k;obtain⟨h1,h2,h3⟩|⟨h1,u,h2,h3⟩:=h <;> obtain⟨k1,k2,k3⟩|⟨k1,v,k2,k3⟩:=k
 exact⟨by rw[h2,k2],by rw[h3,k3],by rw[d,f]⟩;exact absurd h1 k1;exact absurd k1 h1;have e:=h2.uniq k2;subst e;obtain⟨p,q,r⟩|⟨p,q,r⟩:=h3 <;> obtain⟨p',q',r'⟩|⟨p',q',r'⟩:=k3
 ·exact⟨by rw[q,q'],by rw[r,r'],by rw[d,f]⟩
 rw[p]at p';cases p';rw[p]at p';cases p';exact⟨r.uniq r',by rw[q,q'],by rw[d,f]⟩
theorem a7e.uniq(h:a7e x a c i y cd nm)(k:a7e x a c i z cd' nm'):y=z/\cd=cd'/\nm=nm':=by
 have⟨b,h⟩:=h;have⟨d,k⟩:=k;obtain⟨h1,h2,h3⟩|⟨h1,u,h2,h3⟩:=h <;> obtain⟨k1,k2,k3⟩|⟨k1,v,k2,k3⟩:=k
 exact⟨by rw[h2,k2],by rw[h3,k3],by rw[b,d]⟩;exfalso;omega;exfalso;omega;have e:=h2.uniq k2;subst e;obtain⟨p,q,r⟩|⟨p,q,r⟩:=h3 <;> obtain⟨p',q',r'⟩|⟨p',q',r'⟩:=k3
 ·exact⟨by rw[q,q'],by rw[r,r'],by rw[b,d]⟩
 rw[p]at p';cases p';rw[p]at p';cases p';exact⟨r.uniq r',by rw[q,q'],by rw[b,d]⟩
theorem b5e{H G:Nat->Bool}(h:∀i,H i=true↔P i)(k:∀i,G i=true↔P i):H=G:=funext λi=>by
 cases e:H i <;> cases a:G i
 rfl;have:=(h i).2 ((k i).1 a);rw[e]at this;cases this;have:=(k i).2 ((h i).1 e);rw[a]at this;cases this;rfl
theorem c1h.uniq(h:c1h x P n)(k:c1h x P m):n=m:=by
 have⟨p,a,b⟩:=h;have⟨q,d,c⟩:=k;have e:=b5e a d;subst e;rw[b,c]
theorem qV.uniq(s:qU x 0){r t:Int}(h:qV x x.A.length r)(k:qV x x.A.length t):r=t:=c6n.uniq (.inl ⟨s,h⟩) (.inl ⟨s,k⟩)
theorem b5d.uniq(s:qU x 0)(h:b5d x a y n)(k:b5d x a z m):y=z/\n=m:=by
 obtain⟨h1,h2,h3⟩|⟨i,h1,h2,h3⟩:=h <;> obtain⟨k1,k2,k3⟩|⟨j,k1,k2,k3⟩:=k
 exact⟨by rw[h2,k2],by rw[h3,k3]⟩;have:=h1.uniq s k1;omega;have:=h1.uniq s k1;omega;have:=h1.uniq s k1;have e:i=j:=by omega
 subst e;exact⟨by rw[h2,k2],by rw[h3,k3]⟩
theorem DoR.uniq{x:Hp}(s:qU x 0){a b c:Nat}{n:Int}{y z:Hp}{cd nm cd' nm':Int}:∀k:Nat,k<=24->DoR x a b c n y cd nm k->DoR x a b c n z cd' nm' k->y=z/\cd=cd'/\nm=nm'
 | 0,_=>λh _=>h.elim
 | 1,_=>λh k=>a7d.uniq h k
 | 2,_=>λ⟨h1,h2,h3⟩ ⟨k1,k2,k3⟩=>⟨h1.trans k1.symm,h2.trans k2.symm,h3.trans k3.symm⟩
 | 3,_=>λ⟨h1,h2,h3⟩ ⟨k1,k2,k3⟩=>⟨h1.trans k1.symm,h2.trans k2.symm,h3.trans k3.symm⟩
 | 4,_=>λ⟨h1,h2,h3⟩ ⟨k1,k2,k3⟩=>⟨h1.trans k1.symm,h2.trans k2.symm,h3.trans k3.symm⟩
 | 5,_=>λh k=>a1q.uniq (x:=x) (f:=b) (c:=c) (u:=λi=>regTo x a (zL x ((x.c i).p c).key)) h k
 | 6,_=>λh k=>a1q.uniq (x:=x) (f:=b) (c:=c) (u:=λi=>regTo x a (zL x ((x.c i).p c).val)) h k
 | 7,_=>λh k=>a1q.uniq (x:=x) (f:=a) (c:=c) (u:=λi=>uX (hD x i (keyC (x.c i) c (x.r b))) (x.r b)) h k
 | 8,_=>λh k=>a1q.uniq (x:=x) (f:=a) (c:=c) (u:=λi=>uX (hD x i (valC (x.c i) c (x.r b))) (x.r b)) h k
 | 9,_=>λh k=>by
  obtain⟨h1,h2,h3,h4⟩|⟨h1,h2⟩:=h <;> obtain⟨k1,k2,k3,k4⟩|⟨k1,k2⟩:=k
  exact⟨h2.trans k2.symm,h3.trans k3.symm,h4.trans k4.symm⟩;exact absurd k1 h1;exact absurd h1 k1;exact h2.uniq k2
 | 10,_=>λh k=>a0z.uniq (x:=x) (f:=a) (u:=λi=>qH x i c) (cu:=λ_=>0) (nu:=λ_=>0) h k
 | 11,_=>λh k=>a0z.uniq (x:=x) (f:=a) (u:=λi=>hD x i (b5c (x.c i) c)) (cu:=λ_=>0) (nu:=λ_=>0) h k
 | 12,_=>λh k=>a0z.uniq (x:=x) (f:=a) (u:=λi=>if c=1 then uK (hD x i (qE (x.c i) c)) i else hD x i (qE (x.c i) c)) (cu:=λ_=>0) (nu:=λ_=>0) h k
 | 13,_=>λ⟨h1,h2,h3⟩ ⟨k1,k2,k3⟩=>⟨h1.trans k1.symm,h2.trans k2.symm,h3.trans k3.symm⟩
 | 14,_=>λ⟨h1,h2,h3⟩ ⟨k1,k2,k3⟩=>⟨h1.trans k1.symm,h2.trans k2.symm,h3.trans k3.symm⟩
 | 15,_=>λ⟨h1,h2⟩ ⟨k1,k2⟩=>by
  refine⟨h1.trans k1.symm,?_⟩;obtain⟨p,q,r⟩|⟨p,q,r⟩:=h2 <;> obtain⟨p',q',r'⟩|⟨p',q',r'⟩:=k2
  exact⟨q.trans q'.symm,r.trans r'.symm⟩;exact absurd p' p;exact absurd p p';exact⟨q.trans q'.symm,r.trans r'.symm⟩
 | 16,_=>λh k=>a0z.uniq (x:=x) (f:=a) (u:=λ_=>x) (cu:=λ_=>0) (nu:=λi=>(x.c i).kind) h k
 | 17,_=>λh k=>a0z.uniq (x:=x) (f:=a) (u:=λ_=>x) (cu:=λ_=>0) (nu:=λi=>((x.c i).F.length:Nat)) h k
 | 18,_=>λ⟨h1,H,h2,h3,h4⟩ ⟨k1,G,k2,k3,k4⟩=>by
  have e:=b5e h2 k2;subst e;exact⟨h3.trans k3.symm,h1.trans k1.symm,h4.trans k4.symm⟩
 | 19,_=>λ⟨h1,h2⟩ ⟨k1,k2⟩=>⟨(h2.uniq s k2).1,h1.trans k1.symm,(h2.uniq s k2).2⟩
 | 20,_=>λ⟨h1,h2,h3⟩ ⟨k1,k2,k3⟩=>⟨h1.trans k1.symm,h2.trans k2.symm,h3.uniq k3⟩
 | 21,_=>λ⟨h1,h2,h3⟩ ⟨k1,k2,k3⟩=>⟨h1.trans k1.symm,h2.trans k2.symm,h3.uniq k3⟩
 | 22,_=>λ⟨h1,h2,i,h3,h4⟩ ⟨k1,k2,j,k3,k4⟩=>⟨by rw[h4,k4,h3.uniq k3],h1.trans k1.symm,h2.trans k2.symm⟩
 | 23,_=>λ⟨h1,h2,h3⟩ ⟨k1,k2,k3⟩=>⟨h1.trans k1.symm,h2.trans k2.symm,h3.trans k3.symm⟩
 | 24,_=>λ⟨h1,h2,h3⟩ ⟨k1,k2,k3⟩=>⟨h3.uniq k3,h1.trans k1.symm,h2.trans k2.symm⟩
 | _+25,h=>absurd h (by omega)
theorem act_op{a b c:Int}(h:zC op a b c n=true):1<=op/\op<=24:=by
 by_cases e:1<=op/\op<=24;exact e;have:=act_no (a:=a) (b:=b) (c:=c) (n:=n) (op:=op) (by omega);rw[this]at h;cases h
theorem gU.uniq(s:qU x 0){a b c:Int}(h:gU x op a b c n y cd nm)(k:gU x op a b c n z cd' nm'):y=z/\cd=cd'/\nm=nm':=by
 obtain⟨h1,h2,h3,h4⟩|⟨h1,h2⟩:=h <;> obtain⟨k1,k2,k3,k4⟩|⟨k1,k2⟩:=k
 exact⟨h2.trans k2.symm,h3.trans k3.symm,h4.trans k4.symm⟩;rw[h1]at k1;cases k1;rw[h1]at k1;cases k1;exact DoR.uniq s op.toNat (by have:=act_op h1;omega) h2 k2
theorem b6s[qr](h:GAt B w g x ar kr ac kc vg br bc pb pa pk role):
  Calls prog 196 #[pP g] w λe w'=>e=.returned (iv (uV x))/\Ext w w':=by
 have⟨s,t,d⟩:=h.gr.form;subst d;have q:=h.bx.2.2.2.2.1;have n:=h.bx.2.2.2.2.2.1;have r:=h.bx.2.2.2.2.2.2.1;have o:=h.bx.2.2.2.2.2.2.2.2.1;cases b:(x.E == 2)
 ·cases c:(x.E == 5)
  ·have E:=uU (show uV x = -1 by unfold uV;rw[if_neg (λh=>by simp[h.1]at b),if_neg (λh=>by simp[h.1]at c)]);go_in;go_wp21;go_quiet (fail);go_wp2;go_ret;exact⟨by rw[uH E];rfl,by repeat (first|exact hO _|refine Ext.drewN ?_ _|refine mf ?_)⟩
  by_cases a:x.I<x.A.length;focus have E:uV x=x.I:=by unfold uV;rw[if_neg (λh=>by simp[h.1]at b),if_pos ⟨by simpa using c,a⟩]
  rotate_left
  focus have E:uV x = -1:=by unfold uV;rw[if_neg (λh=>by simp[h.1]at b),if_neg (λh=>a h.2)]
  all_goals
   go_in;go_wp21;go_quiet (fail);go_wp2;go_ret;exact⟨by rw[uH E];rfl,by repeat (first|exact hO _|refine Ext.drewN ?_ _|refine mf ?_)⟩
 have c:(x.E == 5)=false:=by simp at b ⊢;omega
 by_cases a:0<x.D.length;focus
  obtain⟨l,p,rfl,j,_⟩:=(λi k=>h.gr.at i k) 0 a;have E:=uU (show uV x=x.D[0] by unfold uV;rw[if_pos ⟨by simpa using b,a⟩];simp[a]);have m:(x.D.length:Int) > 0:=by omega
  rw[kw]at j;go_in
 rotate_left
 focus
  have E:=uU (show uV x = -1 by unfold uV;rw[if_neg (λh=>a h.2),if_neg (λh=>by simp[h.1]at c)]);go_in;go_wp21;go_quiet (fail)
 all_goals
  go_wp2;go_ret;exact⟨by rw[uH E];rfl,by repeat (first|exact hO _|refine Ext.drewN ?_ _|refine mf ?_)⟩
theorem c4q[qr](h:GAt B w g x ar kr ac kc vg br bc pb pa pk role)(H:Nat->Bool)(c:Nat)(C:∀j,j<x.A.length->w.cell? (aA c j)=some (.bool (H j)))(y:Wd)(G:uJ y x.A.length)(A:(zL x y).k=2->0<=(zL x y).a/\(zL x y).a<x.A.length):
  Calls prog 131 #[pP g,sS c x.A.length x.A.length,y.v] w λe w'=>e=.returned (.bool (tX x H y))/\Ext w w':=by
 have l:=(hO w).alloc (oWd y);have o:=uU (a6z y _ (h.ext l) G);have D:=uU (show ∀W,Ext w W->∀j,j<x.A.length->W.cell? (aA c j)=some (.bool (H j)) from λW e j i=>e.keep (C j i));have m:=uU l;obtain⟨r,b⟩:=obE (zL x y);have s:=uU (show tX x H y=(r.k == 2 && !H r.a.toNat) by unfold tX;rw[b]);rw[<-b]at o A;clear h C l b;go_in;go_wp21;refine o.mono ?_;rintro e t ⟨rfl,F⟩;have d:=uU (m.trans F);cases q:(r.k == 2)
 ·have E:=uU (show tX x H y=false by rw[uH s,q];rfl);go_wp21;go_ret;exact⟨by rw[uH E];rfl,by repeat (first|exact d|refine Ext.drewN ?_ _|refine mf ?_|refine mJ ?_ _)⟩
 obtain⟨K,L⟩:=A (by simpa using q);obtain⟨j,i⟩:∃j:Nat,r.a=(j:Int):=⟨r.a.toNat,by omega⟩;have f:j<x.A.length:=by omega
 have u:=uH D t d j f;have J:=i0N j;have j1:(j:Int)<(x.A.length:Int):=by omega
 have I:=cLt u;have E:=uU (show tX x H y = !H j by rw[uH s,q,i];rfl);cases z:H j;all_goals
  rw[z]at u;have p:=uU E;rw[z]at p;go_wp21;go_ret;exact⟨by rw[uH p];rfl,by repeat (first|exact d|refine Ext.drewN ?_ _|refine mf ?_|refine mJ ?_ _)⟩
theorem a4x(n:Int)(a:-4000000<=n)(b:n<=4000000):wrap64 n=n:=by unfold wrap64;omega
def b0g(x:Hp)(i k:Nat):Hp:={ x with A:=x.A.set i { x.c i with F:=(x.c i).F.eraseIdx k },K:=x.K-1,sub:=if (k:Int)<x.sub/\uV x=(i:Int) then x.sub-1 else x.sub }
theorem b5f(l:List Pr)(k j:Nat)(h:j<l.length):(l.take (j+1)).eraseIdx k=if j=k then l.take j else (l.take j).eraseIdx k++[l[j]]:=by
 rw[kx h];have a:(l.take j).length=j:=by simp;omega
 by_cases e:j=k;rw[if_pos e,qj (by omega),a,show k-j=0 by omega];simp;rw[if_neg e];obtain q|q:=ky k j
 ·grind
 rw[qj (by omega),a,List.eraseIdx_of_length_le (l:=l.take j) (by omega)];congr 1;rw[List.eraseIdx_of_length_le];simp;omega
theorem cut_no(h:Hid (w.ownsRow B 53 6 v ((l.take j).eraseIdx k).length (((l.take j).eraseIdx k).flatMap fP)))(a:j<l.length)(e:j=k):Hid (w.ownsRow B 53 6 v ((l.take (j+1)).eraseIdx k).length (((l.take (j+1)).eraseIdx k).flatMap fP)):=by grind[fP,b5f,Grw.at]
theorem cut_all(h:Hid (w.ownsRow B 53 6 v ((l.take j).eraseIdx k).length (((l.take j).eraseIdx k).flatMap fP)))(a:l.length<=j):Hid (w.ownsRow B 53 6 v (l.eraseIdx k).length ((l.eraseIdx k).flatMap fP)):=by
 rw[nx a]at h;exact h
theorem c8a{n:Nat}{l:List Value}(h:Hid (w.ownsRow B 53 6 v n l))(e:Ext w w'):Hid (w'.ownsRow B 53 6 v n l):=uN h (λq a=>e.block q (h.lt q a).2)
def GK[qr](B:Nat)(w:World)(g:Nat)(x:Hp)(ar:Option Addr)(kr:Nat)(ac:Option Addr)(kc:Nat)(vg:Value)(br bc:Nat):Prop:=∃pb pa pk role,GAt B w g x ar kr ac kc vg br bc pb pa pk role
theorem GK.ext[qr](h:GK B w g x ar kr ac kc vg br bc)(e:Ext w w'):GK B w' g x ar kr ac kc vg br bc:=let ⟨pb,pa,pk,role,h⟩:=h;⟨pb,pa,pk,role,h.ext e⟩
theorem GK.ok[qr](h:GK B w g x ar kr ac kc vg br bc):GOk B w g x:=by grind[GK,Snd.ok,GOk]
theorem GK.set1[qr](h:GK B w g x ar kr ac kc vg br bc)(v:Int):GK B (w.setCell (aA g 1) (iv v)) g { x with K:=v } ar kr ac kc vg br bc:=let ⟨_,_,_,_,h⟩:=h;⟨_,_,_,_,h.boxed (x':={ x with K:=v }) (tJ w g 1 _) (h.nf.set _ _) rfl rfl rfl (h.bx.set1 v)⟩
theorem GK.set7[qr](h:GK B w g x ar kr ac kc vg br bc)(v:Int):GK B (w.setCell (aA g 7) (iv v)) g { x with sub:=v } ar kr ac kc vg br bc:=let ⟨_,_,_,_,h⟩:=h;⟨_,_,_,_,h.boxed (x':={ x with sub:=v }) (tJ w g 7 _) (h.nf.set _ _) rfl rfl rfl (h.bx.set7 v)⟩
def Fr2(g bc:Nat)(w w':World):Prop:=w.heap.size<=w'.heap.size/\∀q,q<w.heap.size->q≠g->q≠bc->w'.heap[q]?=w.heap[q]?
theorem Fr2.ext{w2:World}(h:Fr2 g bc w w1)(e:Ext w1 w2):Fr2 g bc w w2:=⟨kA h.1 e.size,λq a b c=>(e.block q (kF a h.1)).trans (h.2 q a b c)⟩
theorem Fr2.of(e:Ext w w1):Fr2 g bc w w1:=⟨e.size,λq a _ _=>e.block q a⟩
theorem Fr2.set(h:Fr2 g bc w w1)(p:Addr)(d:p.block=g\/p.block=bc)(u:Value):Fr2 g bc w (w1.setCell p u):=⟨by have:=h.1;simpa[World.setCell]using this,λq c b a=>(kP _ _ _ _ (by obtain e|e:=d <;> rw[e] <;> assumption)).trans (h.2 q c b a)⟩
theorem d1j{T:TypeId}{n:Nat}{xs:List Value}(h:w.ownsRow B T c v n xs):∃va vq,v=.slice va n vq:=⟨_,_,(a0d h).1⟩
theorem c1i[qr]{wr:World}(h:GAt B w g x ar kr ac kc vg br bc pb pa pk role)(i:Nat)(C:i<x.A.length)(Q:0<x.B.length)(L:List Pr)(n:Option Addr)(l:Nat)(e:Ext w wr)(r:wr.ownsRow w.heap.size 53 6 (.slice n L.length l) L.length (L.flatMap fP)):
  GK B (wr.setCell (aA bc (i*8+7)) (.slice n L.length l)) g { x with A:=x.A.set i { x.c i with F:=L } } ar kr ac kc vg br bc:=by
 have P:0<x.A.length:=by omega
 have u:B<=w.heap.size:=kA h.lo (nQ h.nf.1);have d:=(h.rw.nc P).1;obtain⟨T,D,t,N,G⟩:=b1a (f:=fP) (λ_=>rfl) r;injection t with t _ M;subst t M;have A:∀b,n=some (aA b 0)->w.heap.size<=b/\b<wr.heap.size/\b≠bc:=λb I=>by
  have:=r.lt b (by rw[I];rfl);have:=d.1;omega
 have K:(wr.setCell (aA bc (i*8+7)) (.slice n L.length l)).cell? (aA bc (i*8+7))=some (.slice n L.length l):=kM _ _ _ (e.keep (h.rw.p7 i C));refine⟨_,_,_,_,h.prow i C Q L (qW (.slice n L.length l)) n l (uZ.setCell (S:=λq=>q=bc) (uZ.of_ext e) (p:=(aA bc (i*8+7))) rfl _) ((d.ext e).set _ _) K (λj O=>?_) (λk z=>?_) (b3x r) (λJ=>?_)⟩;rw[uC _ (.inr (λe=>O e.symm))];exact(cE e).1 bc j d.1;obtain⟨b,rfl⟩:=N (by omega);obtain⟨R,o,_,_,v⟩:=G k z;injection o with o;injection o with o;subst o;have F:L.getD k Pr0=L[k]:=by simp[z]
 rw[F];have a:∀m,m<6->(wr.setCell (aA bc (i*8+7)) (sS b L.length l)).cell? (aA b (k*6+m))=(fP L[k])[m]?:=λm E=>by
  rw[uC _ (.inl (λe=>(A b rfl).2.2 e.symm))];have:=v m E;rwa [kO]at this
 exact⟨a 0 (by omega),a 1 (by omega),a 2 (by omega),a 3 (by omega),a 4 (by omega),a 5 (by omega)⟩;obtain⟨y,_,H,_⟩:=b8m r J;have s:=A _ y;exact⟨y,eN H (kP _ _ _ _ s.2.2) (by simp[World.setCell]),s.1,kA u s.1⟩
theorem b7j[qr]{B:Nat}{w:World}{g:Nat}{x:Hp}{ar:Option Addr}{kr:Nat}{ac:Option Addr}{kc:Nat}{vg:Value}{br bc:Nat}(h:GK B w g x ar kr ac kc vg br bc)(i k:Nat)(J:i<x.A.length)(d:k<(x.c i).F.length)(r0:0<x.B.length)(K:(x.c i).F.length<=200)(hu:-3000000<=x.K/\x.K<=1000000)(ao:-3000000<=x.sub/\x.sub<=1000000)(n8:x.A.length<=8000)(a:World)(ha:a.heap.size<=B)(hx:Ext a w):
  Calls prog 132 #[pP g,iv i,iv k] w λe w'=>e=.returned (.tuple #[])/\GK B w' g (b0g x i k) ar kr ac kc vg br bc/\Fr2 g bc w w'/\Ext a w':=by
 obtain⟨pb,pa,pk,aj,h⟩:=h;have O:0<x.A.length:=by omega
 have r:=uU h;have G:=h.bx.2.2.2.2.1;rw[h.hc O]at G;have T:=h.rw.p7 i J;have PL:=uU (h.rw.pl i J (h.rw.pw J (by omega)));obtain⟨i0,ae,ab,af,ag⟩:=info_parts a2n;have j0:=i0N i;have j1:(i:Int)<(x.A.length:Int):=by omega
 rw[(uH PL).1]at T;have XS:=uU hx;clear h;go_in;go_wp21;obtain⟨l,C⟩:=obE ((x.c i).F);rw[<-C]at T d K;have PP:=uU (show ∀j (U:j<l.length),qY w (pb i) (j*6) l[j] from λj U=>by
  have W:=(uH r).rw.p i J j (by rw[<-C];exact U);have h2:(x.c i).p j=l[j]:=by simp[Cl.p,<-C,U]
  rw[h2]at W;exact W)
 have HL:=uU C;have C4:=uU G;have P7:=uU T;rw[<-C];clear C;go_loopw [6,18] (λv s wr=>∃j:Nat,j<=l.length/\s=iv j/\Hid (wr.ownsRow w.heap.size 53 6 v ((l.take j).eraseIdx k).length (((l.take j).eraseIdx k).flatMap fP))/\Ext w wr) (λ_ s _=>l.length-(intOf s).toNat)
 case atStart=>exact⟨0,kB _,rfl,mB _ _ _ _,hO _⟩
 case round=>
  clear G T;obtain⟨j,U,rfl,f,b⟩:=hrel;by_cases A:j<l.length
  ·obtain⟨e0,e1,e2,e3,e4,e5⟩:=(uH PP j A).ext b;have k0:=i0N j;have k1:(j:Int)<(l.length:Int):=by omega
   have NO:=uU (λq=>cut_no f A q);have m:=uU (b5f l k j A);have X:=uU (show((l.take j).eraseIdx k).length<=j by have:=List.length_eraseIdx_le (l.take j) k;simp at this;omega);obtain⟨y,hy⟩:=obE (l[j]);rw[<-hy]at e0 e1 e2 e3 e4 e5 m;clear hy;obtain⟨L,hL⟩:=obE ((l.take j).eraseIdx k);rw[<-hL]at f m X;clear hL;have xa:=(hO wr).alloc (oPr y);by_cases e:j=k
   ·have eb:((j:Int) != (k:Int))=false:=by simp[e]
    have N:=uU (uH (c8a (uH NO e) xa));clear NO m e;go_wp21;go_roundw
    case rel=>exact⟨j+1,by omega,by go_num,uH N,b.trans xa⟩
    simp[intOf];omega
   have eb:((j:Int) != (k:Int))=true:=by simp;omega
   have Y:=uU (show(l.take (j+1)).eraseIdx k=L++[y] by rw[uH m,if_neg e]);clear NO m e;go_wp2_with (at_builtin;refine wpList_append_lies _ rfl _ _ 49 rfl w.heap.size 53 i0 (.agg #[iv 0,iv 0,iv 0,iv 0,iv 0,iv 0]) 6 48 underlying49 ae ab af ag rfl (by decide) _ L.length (L.flatMap fP) rfl (((uH f).alloc _).alloc _) _ 1 1 (fP y) rfl rfl ?c1 ?c2 (by decide) ?c3 ?G ?c5 _ rfl ?_)
   case c1=>
    intro q u d;match q,d with
    | 0,d=>simp[fP]at d;subst d;simp[Addr.add,go_sem]
    | 1,d=>simp[fP]at d;subst d;simp[Addr.add,go_sem]
    | 2,d=>simp[fP]at d;subst d;simp[Addr.add,go_sem]
    | 3,d=>simp[fP]at d;subst d;simp[Addr.add,go_sem]
    | 4,d=>simp[fP]at d;subst d;simp[Addr.add,go_sem]
    | 5,d=>simp[fP]at d;subst d;simp[Addr.add,go_sem]
    | q+6,d=>simp[fP]at d
   case c2=>intro u hu;simp[fP]at hu;obtain e|e|e|e|e|e:=hu <;> subst e <;> rfl
   case c3=>have:=uH X;unfold maxLen;omega
   case G=>have:=uH X;omega
   case c5=>have:=b.size;simp;omega
   intro gq I w2 t o ad ai;have R:=uU (show w2.ownsRow w.heap.size 53 6 (sS gq (L.length+1) I) ((l.take (j+1)).eraseIdx k).length (((l.take (j+1)).eraseIdx k).flatMap fP) by
    rw[uH Y,nS];simpa using t)
   have P:=uU (a4r ((b.alloc _).alloc _) (((uH f).alloc _).alloc _) (hT _) o);clear t o ad Y;go_wp21;go_roundw
   case rel=>exact⟨j+1,by omega,by go_num,uH R,uH P⟩
   simp[intOf];omega
  have OW:=uU (uH (cut_all f (by omega)));obtain⟨V,M,hv⟩:=d1j (uH OW);subst hv;have G1:=uU (c1i (uH r) i J r0 (l.eraseIdx k) V M b (uH OW));have d4:=b.keep (uH C4);have d7:=b.keep (uH P7);have fc:=(((uH r).ext b).rw.nc O).1.2 (i*8+7);have X1:=uU (show Ext a (wr.setCell (aA bc (i*8+7)) (.slice V (l.eraseIdx k).length M)) from((uH XS).trans b).sc bc (i*8+7) (kA ha ((uH r).rw.nc O).2) _);have aa:¬g=bc:=λe=>by have W:=(uH r).sp.g;have h2:=(uH r).sp.c O;rw[e]at W;omega
  have ak:¬bc=g:=λe=>aa e.symm
  have b1:=b.keep (uH r).bx.2.1;have b7:=b.keep (uH r).bx.2.2.2.2.2.2.2.1;have f1:=((uH r).ext b).nf.2 1;have wu:wrap64 (x.K-1)=x.K-1:=a4x _ (by omega) (by omega);have F:=uU ((uH G1).set1 (x.K-1));have LO:=uU (uH r).lo;have Z:=uU (((Fr2.of (g:=g) (bc:=bc) b).set (aA bc (i*8+7)) (.inr rfl) (.slice V (l.eraseIdx k).length M)).set (aA g 1) (.inl rfl) (iv (x.K-1)));have P:=uU ((uH X1).sc g 1 (kA ha (uH r).lo) (iv (x.K-1)));clear f OW;obtain⟨z,H⟩:=obE ({ ({ x with A:=x.A.set i { x.c i with F:=l.eraseIdx k } }:Hp) with K:=x.K-1 }:Hp);have HZ:=uU H;have SZ:=uU (show uV z=uV x by rw[H];unfold uV;simp);have ZS:=uU (show z.sub=x.sub by rw[H]);have F:=uU (show GK B ((wr.setCell (aA bc (i*8+7)) (.slice V (l.eraseIdx k).length M)).setCell (aA g 1) (iv (x.K-1))) g z ar kr ac kc vg br bc by rw[H];exact uH F);clear H;by_cases D:(k:Int)<x.sub
  ·obtain⟨al,am,an,ah,g2⟩:=uH F;have QS:=uU (b6s g2);rw[uH SZ]at QS;clear g2;go_wp21;refine(uH QS).mono ?_;rintro e w3 ⟨rfl,Q⟩;have S:=uU ((uH F).ext Q);have X3:=uU ((uH P).trans Q);have d1:w3.cell? (aA g 7)=some (iv x.sub):=by have:=(uH S).ok.box;exact this.2.1.trans (by rw[uH ZS])
   have d2:w3.frozen? (aA g 7)=false:=by obtain⟨_,_,_,_,g3⟩:=uH S;exact g3.nf.2 7
   have ws:wrap64 (x.sub-1)=x.sub-1:=a4x _ (by omega) (by omega);cases q:(uV x == (i:Int))
   ·have E:=uU (show b0g x i k=z by rw[uH HZ];unfold b0g;rw[if_neg (λh=>by simp[h.2]at q),uH HL]);go_wp21;go_end0;exact⟨rfl,by rw[uH E];exact uH S,(uH Z).ext Q,uH X3⟩
   have E:=uU (show b0g x i k={ z with sub:=x.sub-1 } by rw[uH HZ];unfold b0g;rw[if_pos ⟨D,by simpa using q⟩,uH HL]);have G4:=uU ((uH S).set7 (x.sub-1));have X4:=uU ((uH X3).sc g 7 (kA ha (uH LO)) (iv (x.sub-1)));go_wp21;go_end0;exact⟨rfl,by rw[uH E];exact uH G4,((uH Z).ext Q).set (aA g 7) (.inl rfl) _,uH X4⟩
  have E:=uU (show b0g x i k=z by rw[uH HZ];unfold b0g;rw[if_neg (λh=>D h.1),uH HL]);go_wp21;go_end0;exact⟨rfl,by rw[uH E];exact uH F,uH Z,uH P⟩
def inH(x:Hp)(H:Nat->Bool)(b:Hp)(i k:Nat):Hp:={ b with A:=b.A.set i { x.c i with F:=(x.c i).F.take k++a5p x H (x.c i) ((x.c i).F.drop k) },K:=b.K-qC x H (x.c i) ((x.c i).F.drop k),sub:=if uV x=(i:Int) then b.sub-qC x H (x.c i) (((x.c i).F.take b.sub.toNat).drop k) else b.sub }
theorem b7k(x:Hp)(H:Nat->Bool)(c:Cl)(p:Pr)(l:List Pr):a5p x H c (p::l)=if goB x H c p=true then a5p x H c l else p::a5p x H c l:=by grind[Hp.c,Cl.p,a5p,goB]
theorem a2r(x:Hp)(H:Nat->Bool)(c:Cl)(p:Pr)(l:List Pr):qC x H c (p::l)=if goB x H c p=true then qC x H c l+1 else qC x H c l:=by grind[Hp.c,Cl.p,qC,goB]
theorem a5q(x:Hp)(H:Nat->Bool)(c:Cl)(l:List Pr):qC x H c l<=l.length:=by
 have:=a4w x H c l;omega
theorem a4y(l:List Pr)(k:Nat)(h:k<l.length):l.drop k=l[k]::l.drop (k+1):=nX h
theorem c1j(l:List Pr)(s k:Nat)(h:k<s)(a:s<=l.length):(l.take s).drop k=(l[k]'(by omega))::(l.take s).drop (k+1):=by
 rw[nX (by simp;omega)];simp
theorem inH_top(x:Hp)(H:Nat->Bool)(b:Hp)(i:Nat)(f:i<b.A.length)(g:b.c i=x.c i):inH x H b i (x.c i).F.length=b:=by
 have a:(x.c i).F.drop (x.c i).F.length=[]:=List.drop_length;have d:((x.c i).F.take b.sub.toNat).drop (x.c i).F.length=[]:=qS (by simp;omega);unfold inH;rw[a,d,mG];have e:b.A.set i { x.c i with F:=(x.c i).F++a5p x H (x.c i) [] }=b.A:=by
  have:({ x.c i with F:=(x.c i).F++a5p x H (x.c i) [] }:Cl)=b.A[i]:=by rw[Hp.c_eq b i f,g];simp[a5p]
  rw[this];simp
 rw[e];simp[qC]
theorem d1k(x:Hp)(H:Nat->Bool)(b:Hp)(i k:Nat)(d:k<(x.c i).F.length)(q:goB x H (x.c i) (x.c i).F[k]=false)(f:uV x=(i:Int)->b.sub<=(x.c i).F.length):inH x H b i k=inH x H b i (k+1):=by
 unfold inH;rw[a4y _ k d,b7k,a2r,if_neg (by simp[q]),if_neg (by simp[q]),kx d,my,qF];congr 1;by_cases e:uV x=(i:Int);rw[if_pos e,if_pos e];have f:=f e;by_cases a:k<b.sub.toNat
 ·rw[c1j _ _ k a (by omega),a2r,if_neg (by simp[q])]
 rw[qS (by simp;omega),qS (by simp;omega)];rw[if_neg e,if_neg e]
theorem d1m(x:Hp)(H:Nat->Bool)(b:Hp)(i k:Nat)(a:uV b=uV x):uV (inH x H b i k)=uV x:=by grind[uV,inH]
theorem inH_len(x:Hp)(H:Nat->Bool)(b:Hp)(i k:Nat):(inH x H b i k).A.length=b.A.length:=by simp[inH]
theorem inH_c(x:Hp)(H:Nat->Bool)(b:Hp)(i k:Nat)(a:i<b.A.length):(inH x H b i k).c i={ x.c i with F:=(x.c i).F.take k++a5p x H (x.c i) ((x.c i).F.drop k) }:=by grind[inH,Hp.c,a5p,Hp.c_set,Grw.at]
theorem inH_cut(x:Hp)(H:Nat->Bool)(b:Hp)(i k:Nat)(j:i<b.A.length)(a:k<(x.c i).F.length)(q:goB x H (x.c i) (x.c i).F[k]=true)(m:uV x=(i:Int)->0<=b.sub/\b.sub<=(x.c i).F.length)(l:uV b=uV x):b0g (inH x H b i (k+1)) i k=inH x H b i k:=by
 have g:((x.c i).F.take k).length=k:=by simp;omega
 have d:(((x.c i).F.take (k+1)++a5p x H (x.c i) ((x.c i).F.drop (k+1))).eraseIdx k)=(x.c i).F.take k++a5p x H (x.c i) ((x.c i).F.drop k):=by
  rw[a4y _ k a,b7k,if_pos q,kx a,my,qj (by omega),g,Nat.sub_self];simp
 have h:qC x H (x.c i) ((x.c i).F.drop k)=qC x H (x.c i) ((x.c i).F.drop (k+1))+1:=by rw[a4y _ k a,a2r,if_pos q]
 have e:(if (k:Int)<(inH x H b i (k+1)).sub/\uV (inH x H b i (k+1))=(i:Int) then (inH x H b i (k+1)).sub-1 else (inH x H b i (k+1)).sub)=(inH x H b i k).sub:=by grind[inH,Add.sub,uV,d1m,eX.hlt,c1j,Hp.c,a5q,a2r,qC]
 unfold b0g;rw[e,inH_c x H b i (k+1) j];simp only[d];unfold inH;simp only[h,List.set_set];congr 1;omega
theorem b6t(x:Hp)(y:Wd)(b:Nat)(w:World)(h:HAt w b x ar kr ac kc ag kg)(q:a0m x y):
  Calls prog 127 #[pP b,y.v] w λe w'=>∃t:Wd,Hid (e=.returned t.v)/\Hid ((y.k≠2/\t=y)\/(y.k=2/\t=⟨2,0,(tgt x y:Int)⟩))/\Ext w w':=by
 cases d:(y.k == 2)
 exact(a8n y b w d).mono λ_ _ ⟨f,g⟩=>⟨y,f,.inl ⟨by simpa using d,rfl⟩,g⟩
 have c:y.k=2:=by simpa using d
 obtain⟨p,r,s,l,u⟩:=q c;obtain⟨i,j⟩:∃i:Nat,y.a=(i:Int):=⟨y.a.toNat,by omega⟩;have m:tgt x y=a2h x i:=by unfold tgt;rw[j];simp
 have o:(.agg #[iv 2,iv 0,iv i]:Value)=y.v:=by rw[<-j,<-p,<-c]
 have n:y.a.toNat=i:=by omega
 rw[n]at l;have:=b0a x b i w h (by omega) l;rw[o]at this;exact this.mono λ_ _ ⟨f,g⟩=>⟨⟨2,0,(tgt x y:Int)⟩,by rw[f,m];rfl,.inr ⟨c,rfl⟩,g⟩
def b6u(w:World)(B bs:Nat)(v:Value)(wk:Int):Prop:=w.cell? ⟨B,2,none⟩=some (iv wk)/\B≠bs/\v.ownBlock≠some B
theorem b6u.ext(h:b6u w B bs v wk)(e:Ext w w'):b6u w' B bs v wk:=⟨e.keep h.1,h.2⟩
theorem Mfr.apart(m:Mfr bs v v' w w')(c:B<w.heap.size)(b:v.ownBlock≠some B):v'.ownBlock≠some B:=λe=>by
 obtain q|⟨g,q,a⟩:=m.own;grind;grind
theorem b6u.mfr(h:b6u w B bs v wk)(m:Mfr bs v v' w w'):b6u w' B bs v' wk:=
 have b:=uQ h.1
 ⟨(cOb B 2 (m.block B b h.2.1 h.2.2)).trans h.1,h.2.1,m.apart b h.2.2⟩
structure PBx(w:World)(B bs:Nat)(v:Value)(p:Pr):Prop where
 c:w.cell? ⟨B,0,none⟩=some (.int .i64 p.key.k)/\w.cell? ⟨B,1,none⟩=some (.int .i64 p.key.n)/\w.cell? ⟨B,2,none⟩=some (.int .i64 p.key.a)/\w.cell? ⟨B,3,none⟩=some (.int .i64 p.val.k)/\w.cell? ⟨B,4,none⟩=some (.int .i64 p.val.n)/\w.cell? ⟨B,5,none⟩=some (.int .i64 p.val.a)
 n:B≠bs
 o:v.ownBlock≠some B
theorem PBx.ext(h:PBx w B bs v p)(e:Ext w w'):PBx w' B bs v p:=⟨⟨e.keep h.c.1,e.keep h.c.2.1,e.keep h.c.2.2.1,e.keep h.c.2.2.2.1,e.keep h.c.2.2.2.2.1,e.keep h.c.2.2.2.2.2⟩,h.n,h.o⟩
theorem PBx.mfr(h:PBx w B bs v p)(m:Mfr bs v v' w w'):PBx w' B bs v' p:=by
 have b:=cLt h.c.1;have k:=λo=>kT (w:=w) (w':=w') (a:=(aA B o)) (m.block B b h.n h.o)
 exact⟨⟨(k 0).trans h.c.1,(k 1).trans h.c.2.1,(k 2).trans h.c.2.2.1,(k 3).trans h.c.2.2.2.1,(k 4).trans h.c.2.2.2.2.1,(k 5).trans h.c.2.2.2.2.2⟩,h.n,m.apart b h.o⟩
theorem PBx.new{base n:Nat}{t:TypeId}(h:Sn w base bs n v T):PBx (w.alloc (.cells #[iv p.key.k,iv p.key.n,iv p.key.a,iv p.val.k,iv p.val.n,iv p.val.a] t)) w.heap.size bs v p:=
 ⟨by simp[go_sem],by have:=h.hb.2;omega,λe=>by have:=(h.own.lt _ e).2;omega⟩
theorem tN.more{p:Nat}(h:tN x L0 j p T)(b:SK (x.c j)->((x.c j).p p).key.k=2->(tgt x ((x.c j).p p).key:Int)∈T)(a:SV (x.c j)->(((x.c j).p p).key.k=2->(tgt x ((x.c j).p p).key:Int)∈L0)->((x.c j).p p).val.k=2->(tgt x ((x.c j).p p).val:Int)∈T):tN x L0 j (p+1) T:=λq d=>by
 by_cases e:q=p;subst e;exact⟨b,a⟩;exact h q (by omega)
abbrev AtC(x:Hp)(L:List Int)(c j p:Nat)(T:List Int):Prop:=kD x L c T/\it T c=(j:Int)/\c<T.length/\tN x L j p T
theorem AtC.mark{p:Nat}{T5:List Int}(h:AtC x L c j p T)(a:Add x ((x.c j).p p).key T T5)(l:((x.c j).p p).key.k=2->qX x (tgt x ((x.c j).p p).key)):kD x L c T5/\it T5 c=(j:Int)/\c<T5.length/\tN x L j p T5/\(SK (x.c j)->((x.c j).p p).key.k=2->(tgt x ((x.c j).p p).key:Int)∈T5):=by
 obtain⟨i,f,b,g⟩:=h;obtain⟨R,r⟩:=a.pre;have m:T.length<=T5.length:=by rw[r];simp
 refine⟨i.add a (by omega) l,?_,by omega,g.mono (λz d=>a.sub d),λ_ e=>a.has e⟩;rw[r,b1q b];exact f
theorem kD.val{p:Nat}{T8:List Int}(h:kD x L c T/\it T c=(j:Int)/\c<T.length/\tN x L j p T/\(SK (x.c j)->((x.c j).p p).key.k=2->(tgt x ((x.c j).p p).key:Int)∈T))(a:Add x ((x.c j).p p).val T T8)(m:((x.c j).p p).val.k=2->qX x (tgt x ((x.c j).p p).val)):kD x L c T8/\it T8 c=(j:Int)/\c<T8.length/\tN x L j (p+1) T8:=by
 obtain⟨l,f,b,i,g⟩:=h;obtain⟨R,r⟩:=a.pre;have n:T.length<=T8.length:=by rw[r];simp
 refine⟨l.add a (by omega) m,?_,by omega,(i.mono (λz d=>a.sub d)).more (λs e=>a.sub (g s e)) (λ_ _ e=>a.has e)⟩;rw[r,b1q b];exact f
theorem b2y(x:Hp)(b:Nat)(w:World)(h:HAt w b x ar kr ac kc ag kg)(r2:R2 x)(r4:R4 x)(Z:x.A.length<=8000):
  Calls prog 75 #[.pointer (some ⟨b,0,none⟩)] w λe w'=>∃v L,Hid (e=.returned (.slice (some ⟨w.heap.size,0,none⟩) x.A.length x.A.length))/\Sn w' w.heap.size w.heap.size x.A.length v L/\Hid (∀i:Nat,(i:Int)∈L↔qX x i)/\Ext w w':=by
 have c4:=h.c4;have c3:=h.c3;have lr:=h.lr;have hb:=cLt c4;have S:=uU h;have Q2:=uU r2;have Q4:=uU r4;clear h r2 r4;obtain⟨z,bo,hz⟩:=c6k x.A.length (by omega) w;have S0:=uU (Sn.V w x.A.length 4);rw[<-hz]at S0;clear hz;go_in;go_wp21;go_loopw [4,26] (λv i wr=>∃(k:Nat)(L:List Int),k<=x.B.length/\i=.int .i64 k/\Sn wr w.heap.size w.heap.size x.A.length v L/\Hid (a8o x L/\a4b x k L)/\Ext w wr) (λ_ i _=>x.B.length-(intOf i).toNat)
 case atStart=>exact⟨0,[],kB _,rfl,S0,⟨(λz hz=>by cases hz),λj _ hj=>by omega⟩,(hO w).alloc _⟩
 case round=>
  clear S0 bo c4 c3;obtain⟨k,L,hk,rfl,H,d,f⟩:=hrel;have y:=uU H;clear H;by_cases r:k<x.B.length
  ·have hh:=S.ext f;obtain⟨b',o,V,p0,p1,p2⟩:=hh.R k r;have d3:=hh.c3;rw[V]at d3;have bt:=i0N k;have bl:(k:Int)<(x.B.length:Int):=by omega
   have J:=(hO wr).alloc (.cells #[iv x.B[k].k,iv x.B[k].n,iv x.B[k].a] 48);subst V;clear hh;go_wp21;refine(a0y x x.B[k] b w.heap.size w.heap.size _ L _ (S.ext (f.trans J)) (b0c Q2 Q4 k r) (y.ext J) (f.trans J).size Z).mono ?_;rintro e w2 ⟨v',L',rfl,ah,ha,hm⟩;have R:=uU (show Sn w2 w.heap.size w.heap.size x.A.length v' L'/\(a8o x L'/\a4b x (k+1) L')/\Ext w w2 from
    ⟨ah,⟨d.1.add ha (λe=>qX.reg k r e),λj hj bg e=>by
     by_cases q:j=k
     ·subst q;exact ha.has e
     ·exact ha.sub (d.2 j hj (by omega) e)⟩,(y.ext J).mext hm (f.trans J)⟩)
   clear ah ha hm J;go_wp21;go_roundw
   case rel=>exact⟨k+1,L',by omega,by go_num,R.1,R.2.1,R.2.2⟩
   simp[intOf];omega
  ·have ay:k=x.B.length:=by omega
   subst ay;have c4:=(S.ext f).c4;have B0:=uU f;clear r hk;go_wp21;clear f;go_loopw [4,41] (λv i wr=>∃(k:Nat)(L:List Int),k<=x.A.length/\i=.int .i64 k/\Sn wr w.heap.size w.heap.size x.A.length v L/\Hid (a8o x L/\a4b x x.B.length L/\c1d x k L)/\Ext w wr) (λ_ i _=>x.A.length-(intOf i).toNat)
   case atStart=>exact⟨0,L,kB _,rfl,y,⟨d.1,d.2,λi hi=>by omega⟩,B0⟩
   case round=>
    clear y d B0 c4 L;obtain⟨k,L,hk,rfl,H,d,f⟩:=hrel;have y:=uU H;clear H;by_cases r:k<x.A.length
    ·have hh:=S.ext f;obtain⟨b',o,ap,kp,V,p0,p1,p2,p3,p4,p5,p6,p7,lp,P⟩:=hh.cell k r;have cf:=cLt p0;have d4:=hh.c4;rw[V]at d4;have bt:=i0N k;have bl:(k:Int)<(x.A.length:Int):=by omega
     have J:=(hO wr).alloc (oCl (x.c k) (.slice ap (x.c k).F.length kp));subst V;clear P hh;cases tl:((x.c k).U == 2)
     ·have R:=uU (show c1d x (k+1) L from λi hi hn e=>by
       by_cases q:i=k
       ·subst q;simp at tl;exact(tl e).elim
       ·exact d.2.2 i (by omega) hn e)
      have A:=uU (kG (y.ext J) (f.trans J));clear J;go_wp21;go_roundw
      case rel=>exact⟨k+1,L,by omega,by go_num,A.1,⟨d.1,d.2.1,R⟩,A.2⟩
      simp[intOf];omega
     ·have ao:(x.c k).U=2:=by simpa using tl
      have HL:=uU ao;have an:=a0u Q2 k r (.inr ao);have et:tgt x ⟨2,0,(k:Int)⟩=k:=by unfold tgt a2h;simp[an]
      have MY:=uU (show a0m x ⟨2,0,(k:Int)⟩ from λ_=>⟨rfl,by simp,by simpa using r,(λh=>by simp[an]at h),by rw[et];exact b1p Q4 k r an (.inr ao)⟩);have ET:=uU et;clear ao an et;go_wp21;refine(a0y x ⟨2,0,(k:Int)⟩ b w.heap.size w.heap.size _ L _ (S.ext (f.trans J)) MY (y.ext J) (f.trans J).size Z).mono ?_;rintro e w2 ⟨v',L',rfl,ah,ha,hm⟩;have R:=uU (show Sn w2 w.heap.size w.heap.size x.A.length v' L'/\(a8o x L'/\a4b x x.B.length L'/\c1d x (k+1) L')/\Ext w w2 from
       ⟨ah,⟨d.1.add ha (λ_=>by rw[uH ET];exact qX.due k r HL),λj hj bg e=>ha.sub (d.2.1 j hj bg e),λi hi hn e=>by
        by_cases q:i=k
        ·subst q;have:=ha.has rfl;rw[uH ET]at this;exact this
        ·exact ha.sub (d.2.2 i (by omega) hn e)⟩,(y.ext J).mext hm (f.trans J)⟩)
      clear ah ha hm J;go_wp21;go_roundw
      case rel=>exact⟨k+1,L',by omega,by go_num,R.1,R.2.1,R.2.2⟩
      simp[intOf];omega
    ·have ay:k=x.A.length:=by omega
     subst ay;have B0:=uU f;have R0:=uU (show c1e x (-1) L from⟨d.1,d.2.1,d.2.2,⟨by omega,by omega⟩,λe=>by omega⟩);clear r hk d f;go_wp21;go_loopw [4,9] (λv n wr=>∃(m:Int)(L:List Int),n=.int .i64 m/\Sn wr w.heap.size w.heap.size x.A.length v L/\Hid (c1e x m L)/\Ext w wr) (λ_ n _=>((x.A.length:Int)-intOf n).toNat)
     case atStart=>exact⟨-1,L,rfl,y,R0,B0⟩
     case round=>
      clear y R0 B0 L;obtain⟨m,L,rfl,H,aa,f⟩:=hrel;have y:=uU H;have ca:=H.len;have ce:=aa.b;obtain⟨ad,aw,rfl,am⟩:=H.form;clear H am;by_cases aq:m=(L.length:Int)
      ·have D:=uU (show ∀i:Nat,(i:Int)∈L↔qX x i by have:=uH aa;rw[aq]at this;exact this.done);have br:(m != (L.length:Int))=false:=by simp[aq]
       clear aa;go_wp21;go_ret;exact⟨_,L,rfl,y,D,f⟩
      ·have br:(m != (L.length:Int))=true:=by simp[aq]
       have P0:=uU aa.begin;have B0:=uU f;have bw:m<(L.length:Int):=by omega
       clear aa f aq;go_wp21;go_loopw [4,10] (λv i wr=>∃(c:Nat)(T:List Int),c<=T.length/\i=.int .i64 c/\Sn wr w.heap.size w.heap.size x.A.length v T/\Hid (kD x L c T)/\Ext w wr) (λ_ i _=>x.A.length-(intOf i).toNat)
       case atStart=>exact⟨0,L,kB _,rfl,y,P0,B0⟩
       case round=>
        clear y P0 B0;obtain⟨c,T,hc,rfl,H,ab,f⟩:=hrel;have y:=uU H;obtain⟨ad,aw,rfl,am⟩:=H.form;have bk:=H.len;by_cases r:c<T.length
        ·obtain⟨g,rfl⟩:=am (by omega);obtain⟨a1,a2,a3⟩:=(Rw1.mk H.own).cell c r;obtain⟨j,ej,az⟩:=ab.o _ (a3s T c r);rw[ej]at a1;have av:=az.good Q2 Q4;have hh:=S.ext f;obtain⟨b',o,ap,kp,V,C⟩:=S.cell j av.1;have d4:=hh.c4;rw[V]at d4;have q0:=f.keep C.p0;have q1:=f.keep C.p1;have q2:=f.keep C.p2;have q3:=f.keep C.p3;have q4:=f.keep C.p4;have q5:=f.keep C.p5;have q6:=f.keep C.p6;have q7:=f.keep C.p7;have bp:=cLt q0;have bs:=cLt d4;have bm:=cLt a1;have lp:=C.lp;have HP:=uU C.P;have EJ:=uU ej;have RJ:=uU az;have GJ:=uU av;have bn:=av.1;have c0:=i0N c;have c1:(c:Int)<(T.length:Int):=by omega
         have j0:=i0N j;have j1:(j:Int)<(x.A.length:Int):=by omega
         clear H C hh V ej az av a3 a2;obtain⟨WR,bq⟩:∃W,W=wr:=⟨_,rfl⟩;subst bq;have u:(x.c j).T=0\/(x.c j).T=1\/(x.c j).T=2\/(x.c j).T=3:=by
          have h2:=GJ.2.1;rcases Q2.1 j bn with z|z|z
          ·omega
          ·omega
          ·have:=z.2.2.1;omega
         have OB:=uU (show ∀q,WR.heap.size<=q->(Value.slice (some ⟨g,0,none⟩) T.length aw).ownBlock≠some q from λq hq e=>by have:=(y.own.lt _ e).2;omega);have PA:=uU ab;clear ab;go_wp21;go_cut [11] (λbu wx=>∃B:Nat,bu=.pointer (some ⟨B,0,none⟩)/\Hid (wx.cell? ⟨B,2,none⟩=some (iv (x.c j).T)/\wx.cell? ⟨B,7,none⟩=some (.slice ap (x.c j).F.length kp)/\WR.heap.size<=B)/\Ext WR wx)
         case first=>
          go_region_with (fail)
          all_goals
           go_wp21;go_meet;exact⟨_,rfl,⟨by simp[go_sem],by simp[go_sem],hT _⟩,(eAl WR _).drew⟩
         case rest=>
          obtain⟨B,rfl,aj,xB⟩:=hcut;have b7:=aj.2.1;have X0:=uU (f.trans xB);have S0:=uU (y.ext xB);have B0:=uU (show b6u wc B w.heap.size (.slice (some ⟨g,0,none⟩) T.length aw) (x.c j).T from⟨aj.1,by have:=f.size;have:=aj.2.2;have:=y.hb.2;omega,uH OB B aj.2.2⟩);clear aj xB f y OB q0 q1 q2 q3 q4 q5 q6 q7 d4 a1 bp bs bm;go_wp21;go_loopw [4,81] (λv i wz=>∃(p:Nat)(T':List Int),p<=(x.c j).F.length/\i=.int .i64 p/\Sn wz w.heap.size w.heap.size x.A.length v T'/\Hid (kD x L c T'/\it T' c=(j:Int)/\c<T'.length/\tN x L j p T')/\Hid (b6u wz B w.heap.size v (x.c j).T)/\Ext w wz) (λ_ i _=>(x.c j).F.length-(intOf i).toNat)
          case atStart=>exact⟨0,T,kB _,rfl,S0,⟨PA,EJ,r,λp hp=>by omega⟩,B0,X0⟩
          case round=>
           clear S0 PA B0 X0 b7;obtain⟨p,T,hp,rfl,H,d,ba,f⟩:=hrel;have y:=uU H;have bk:=H.len;by_cases X:p<(x.c j).F.length
           ·obtain⟨b2,o2,rfl,q0,q1,q2,q3,q4,q5⟩:=uH HP p X;have e0:=f.keep q0;have V:=f.keep q1;have e2:=f.keep q2;have e3:=f.keep q3;have e4:=f.keep q4;have e5:=f.keep q5;have cb:=cLt e0;have bz:=cLt ba.1;clear q0 q1 q2 q3 q4 q5 H;have bv:=i0N p;have cd:(p:Int)<((x.c j).F.length:Int):=by omega
            have J:=(hO wr).alloc (oPr ((x.c j).p p));have M:=uU (a4a Q2 Q4 j p GJ X);have bx:=ba.1;have Y:=uU (y.ext J);have au:=uU (ba.ext J);have XA:=f.trans J;have PB:=uU (show PBx (wr.alloc (oPr ((x.c j).p p))) wr.heap.size w.heap.size _ ((x.c j).p p) from PBx.new y);rcases (show((x.c j).T=0\/(x.c j).T=2)\/(x.c j).T=1\/(x.c j).T=3 by omega) with u|u
            focus
             rcases u with u|u
             all_goals
              have F:=bx;rw[u]at F;go_wp21;refine(a0y x ((x.c j).p p).key b w.heap.size w.heap.size _ T _ (S.ext XA) M.1 Y XA.size Z).mono ?_;rintro e w5 ⟨v5,I,rfl,ak,ae,K⟩;have X5:=Y.mext K XA;have S5:=uU ak;have A5:=uU ae;have B5:=uU (au.mfr K);have P5:=uU (PB.mfr K);have af:=B5.1;rw[u]at af;have G:=uU (show kD x L c I/\it I c=(j:Int)/\c<I.length/\tN x L j p I/\(SK (x.c j)->((x.c j).p p).key.k=2->(tgt x ((x.c j).p p).key:Int)∈I) from AtC.mark d A5 (λe=>qX.key j p RJ X ⟨by omega,by omega⟩ e));obtain⟨u0,u1,u2,u3,u4,u5⟩:=P5.c;clear K ak ae e0 V e2 e3 e4 e5 F;go_wp21;clear u0 u1 u2 u3 u4 u5 af
            rotate_left 2
            focus
             rcases u with u|u
             all_goals
              have F:=bx;rw[u]at F;go_wp21;have X5:=XA;have S5:=uU Y;have B5:=uU au;have P5:=uU PB;have G:=uU (show kD x L c T/\it T c=(j:Int)/\c<T.length/\tN x L j p T/\(SK (x.c j)->((x.c j).p p).key.k=2->(tgt x ((x.c j).p p).key:Int)∈T) from⟨d.1,d.2.1,d.2.2.1,d.2.2.2,λs=>by unfold SK at s;omega⟩);clear e0 V e2 e3 e4 e5 F;obtain⟨I,bj⟩:∃q,q=T:=⟨_,rfl⟩;subst bj
            all_goals
             refine(b6t x ((x.c j).p p).key b _ (S.ext X5) M.1).mono ?_;rintro e Q ⟨t,rfl,ht,l⟩;have X6:=X5.trans l;have S6:=uU (S5.ext l);have B6:=uU (B5.ext l);have P6:=uU (P5.ext l);have N:=B6.1;rw[u]at N;have bc:=cLt N;obtain⟨z0,z1,z2,z3,z4,z5⟩:=P6.c;have bd:=cLt z0;have be:w.heap.size<Q.heap.size:=S6.hb.2;have xk:=(hO Q).alloc (oWd t);have X7:=X6.trans xk;have S7:=uU (S6.ext xk);have B7:=uU (B6.ext xk);clear l
            iterate 2
             rotate_left
             ·have R:=uU (show tN x L j (p+1) I from G.2.2.2.1.more G.2.2.2.2 (λs=>by unfold SV at s;omega));go_wp21;go_roundw
              case rel=>exact⟨p+1,I,by omega,by go_num,S7,⟨G.1,G.2.1,G.2.2.1,R⟩,B7,X7⟩
              simp[intOf];omega
            all_goals
             rcases uH ht with⟨hk,rfl⟩|⟨hk,rfl⟩
             ·have cc:(((x.c j).p p).key.k != 2)=true:=by simp[hk]
              go_wp21;refine(a0y x ((x.c j).p p).val b w.heap.size w.heap.size _ I _ (S.ext X7) M.2 S7 X7.size Z).mono ?_;rintro e w8 ⟨v8,U,rfl,al,ai,O⟩
              have R:=uU (show Sn w8 w.heap.size w.heap.size x.A.length v8 U/\(kD x L c U/\it U c=(j:Int)/\c<U.length/\tN x L j (p+1) U)/\b6u w8 B w.heap.size v8 (x.c j).T/\Ext w w8 from
               ⟨al,kD.val G ai (λe=>qX.val j p RJ X ⟨by omega,by omega⟩ (λe=>(hk e).elim) e),B7.mfr O,S7.mext O X7⟩)
              clear al ai O;go_wp21;go_roundw
              case rel=>exact⟨p+1,U,by omega,by go_num,R.1,R.2.1,R.2.2.1,R.2.2.2⟩
              simp[intOf];omega
             ·have bi:tgt x ((x.c j).p p).key<x.A.length:=(M.1 hk).2.2.2.2.1;have sn:=S7.s _ bi;obtain⟨tg,ax⟩:∃q,q=tgt x ((x.c j).p p).key:=⟨_,rfl⟩;rw[<-ax]at sn bi xk S7 B7 X7 ⊢;have bf:=uU ax;clear ax;have t0:=i0N tg;have t1:(tg:Int)<(x.A.length:Int):=by omega
              by_cases hm:(tg:Int)∈I
              ·have E:decide ((tg:Int)∈I)=true:=decide_eq_true hm;rw[E]at sn;clear E;go_wp21;refine(a0y x ((x.c j).p p).val b w.heap.size w.heap.size _ I _ (S.ext X7) M.2 S7 X7.size Z).mono ?_;rintro e w8 ⟨v8,U,rfl,al,ai,O⟩
               have R:=uU (show Sn w8 w.heap.size w.heap.size x.A.length v8 U/\(kD x L c U/\it U c=(j:Int)/\c<U.length/\tN x L j (p+1) U)/\b6u w8 B w.heap.size v8 (x.c j).T/\Ext w w8 from
                ⟨al,kD.val G ai (λe=>qX.val j p RJ X ⟨by omega,by omega⟩ (λ_=>by rw[<-uH bf];obtain⟨q,eq,hq⟩:=G.1.o _ hm;have e3:tg=q:=(by omega);rw[e3];exact hq) e),B7.mfr O,S7.mext O X7⟩)
               clear al ai O;go_wp21;go_roundw
               case rel=>exact⟨p+1,U,by omega,by go_num,R.1,R.2.1,R.2.2.1,R.2.2.2⟩
               simp[intOf];omega
              ·have E:decide ((tg:Int)∈I)=false:=decide_eq_false hm;rw[E]at sn;clear E;have R:=uU (show tN x L j (p+1) I from G.2.2.2.1.more G.2.2.2.2 (λ_ hh=>(hm (by obtain⟨R,e⟩:=G.1.e;rw[e];exact nG _ (by rw[uH bf];exact hh hk))).elim));go_wp21;go_roundw
               case rel=>exact⟨p+1,I,by omega,by go_num,S7,⟨G.1,G.2.1,G.2.2.1,R⟩,B7,X7⟩
               simp[intOf];omega
           ·have bb:p=(x.c j).F.length:=by omega
            have R:=uU (show kD x L (c+1) T/\c+1<=T.length by
             obtain⟨i1,i2,i3,i4⟩:=d;rw[bb]at i4;exact⟨i1.step i2 i4,i3⟩)
            clear H bb;go_wp21;go_roundw
            case rel=>exact⟨c+1,T,R.2,by go_num,y,R.1,f⟩
            simp[intOf];omega
        ·have bh:c=T.length:=by omega
         have R:=uU (show c1e x (L.length:Int) T by have:=uH ab;rw[bh]at this;exact this.rest);clear H bh am ab;go_wp21;go_roundw
         case rel=>exact⟨_,T,rfl,y,R,f⟩
         simp[intOf];omega
theorem GAt.hat[qr](h:GAt B w g x ar kr ac kc vg br bc pb pa pk role)(s:Snd x):∃ag kg,HAt w g x ar kr ac kc ag kg:=by
 have⟨ag,kg,a⟩:=h.gr.form;subst a;have O:=s.ok.n8;have N:=s.r1.D;have⟨⟨v,L,b,_,H⟩,⟨n,u,k,_,p⟩,⟨z,G,d,_,m⟩⟩:=h.rd (by rw[s.r1.B];omega) (by omega) (λq t=>s.ok.p200 q t) (by omega);injection b with b;injection k with k;injection d with d;subst b k d;have⟨A,M,C,F,I,D,y,J,r,E,j,f,c⟩:=h.bx;exact⟨ag,kg,A,M,C,F,I,D,y,J,r,E,j,f,c,by rw[s.r1.B];omega,by omega,by omega,H,λi l=>by have⟨K,o,e,q⟩:=p i l;rw[Hp.c_eq x i l]at q;exact⟨K,o,e,q⟩,m⟩
theorem res_in(d:R2 x){y:Wd}(b:uJ y x.A.length):(zL x y).k=2->0<=(zL x y).a/\(zL x y).a<x.A.length:=by grind[R2,uJ,zL,Grw.at,cQ,qD,Hp.c]
theorem c1k(h:∀q,(z.c q).st=(x.c q).st/\(z.c q).to=(x.c q).to)(y:Wd):zL z y=zL x y:=by grind[Hp.c,zL]
theorem c8b(h:∀q,(z.c q).st=(x.c q).st/\(z.c q).to=(x.c q).to)(H:Nat->Bool)(y:Wd):tX z H y=tX x H y:=by
 unfold tX;rw[c1k h]
theorem c8c(s:Snd x)(h:qX x i)(k:Nat)(a:k<(x.c i).F.length):uJ ((x.c i).p k).key x.A.length/\uJ ((x.c i).p k).val x.A.length:=by
 have g:=h.good s.r2 s.r4;have p:=((s.r4.2 i g.1).2 k a).2 g.2.2;exact⟨p.1.1,p.2.1⟩
theorem inH_st(x:Hp)(H:Nat->Bool)(b:Hp)(i k:Nat)(a:i<b.A.length)(d:∀q,(b.c q).st=(x.c q).st/\(b.c q).to=(x.c q).to)(q:Nat):((inH x H b i k).c q).st=(x.c q).st/\((inH x H b i k).c q).to=(x.c q).to:=by grind[Hp.c,inH,Hp.c_set,a5p]
theorem d1n(x:Hp)(H:Nat->Bool)(k:Nat)(a:k<=x.A.length)(q:Nat):((cY x H k).c q).st=(x.c q).st/\((cY x H k).c q).to=(x.c q).to:=by
 rw[b0f x H k a q];split;exact⟨rfl,rfl⟩;exact⟨rfl,rfl⟩
theorem a5r(x:Hp)(H:Nat->Bool):∀k,(cY x H k).E=x.E/\(cY x H k).I=x.I/\(cY x H k).D=x.D/\(cY x H k).B=x.B
 | 0=>⟨rfl,rfl,rfl,rfl⟩
 | k+1=>by
  unfold cY;split;exact a5r x H k;exact a5r x H k
theorem c4r(x:Hp)(H:Nat->Bool)(k:Nat):uV (cY x H k)=uV x:=by grind[uV,cY,Hp.c,a5r,a2c]
theorem b1s(x:Hp)(H:Nat->Bool)(i:Nat)(e:uV x=(i:Int)):∀k,k<=i->(cY x H k).sub=x.sub
 | 0,_=>rfl
 | k+1,hk=>by
  have ih:=b1s x H i e k (by omega);unfold cY;split;grind[zW,cY,Add.sub,uV];exact ih
theorem c8d(x:Hp)(H:Nat->Bool)(i:Nat)(h:H i=true):cY x H (i+1)=inH x H (cY x H i) i 0:=by grind[cY,inH,a7c,zW]
theorem a4z(x:Hp)(H:Nat->Bool)(hp:∀i,i<x.A.length->(x.c i).F.length<=200):∀k,k<=x.A.length->qJ x H k<=200*k
 | 0,_=>hT _
 | k+1,hk=>by
  have ih:=a4z x H hp k (by omega);have h1:=a5q x H (x.c k) (x.c k).F;have h2:=hp k (by omega);unfold qJ;split <;> omega
theorem a9b(x:Hp)(H:Nat->Bool):∀k,(cY x H k).K=x.K-qJ x H k
 | 0=>by simp[cY,qJ]
 | k+1=>by
  have ih:=a9b x H k;unfold cY qJ;split;grind[cY,qC,Hp.c,qJ];exact ih
theorem b5g(x:Hp)(H:Nat->Bool)(hp:∀i,i<x.A.length->(x.c i).F.length<=200):∀k,k<=x.A.length->x.sub-200*k<=(cY x H k).sub/\(cY x H k).sub<=x.sub
 | 0,_=>by simp[cY]
 | k+1,hk=>by
  have ih:=b5g x H hp k (by omega);unfold cY;split;grind[Add.sub,zW,cY,a5q,Hp.c];omega
theorem inH_num(x:Hp)(H:Nat->Bool)(a:∀i,i<x.A.length->(x.c i).F.length<=200)(i k:Nat)(b:i<x.A.length)(n:x.A.length<=8000)(o:0<=x.K/\x.K<=4000)(p:0<=x.sub/\x.sub<=200):
  (-3000000<=(inH x H (cY x H i) i k).K/\(inH x H (cY x H i) i k).K<=1000000)/\(-3000000<=(inH x H (cY x H i) i k).sub/\(inH x H (cY x H i) i k).sub<=1000000):=by
 have m:=a4z x H a i (by omega);have f:=a9b x H i;have d:=b5g x H a i (by omega);have g:=a5q x H (x.c i) ((x.c i).F.drop k);have l:=a i b;have h:((x.c i).F.drop k).length<=200:=by simp;omega
 have e:=a5q x H (x.c i) (((x.c i).F.take (cY x H i).sub.toNat).drop k);have j:(((x.c i).F.take (cY x H i).sub.toNat).drop k).length<=200:=by simp;omega
 unfold inH;refine⟨by simp only;omega,?_⟩;simp only;split <;> omega
theorem a3o(x z:Hp)(H:Nat->Bool):∀k,(zY x z H k).A.length=z.A.length
 | 0=>rfl
 | k+1=>by
  unfold zY;split;simp[a3o x z H k];exact a3o x z H k
theorem c6o(x z:Hp)(H:Nat->Bool):∀k,k<=z.A.length->∀q,k<=q->(zY x z H k).c q=z.c q
 | 0,_,q,_=>rfl
 | k+1,hk,q,hq=>by
  have ih:=c6o x z H k (by omega) q (by omega);unfold zY;split;grind[Hp.c_set,zY,b5b,Hp.c,a3o];exact ih
theorem b9c(x:Hp)(H:Nat->Bool):∀k,kE x H k<=k
 | 0=>hT _
 | k+1=>by
  have:=b9c x H k;unfold kE;split <;> omega
theorem b0h(s:Snd x)(d:i<x.A.length)(b:(x.c i).st=1)(e:uV x=(i:Int)):0<=x.sub/\x.sub<=(x.c i).F.length:=by
 refine⟨s.r1.sub.1,?_⟩;unfold uV at e;split at e;rename_i h;have:=(s.r6.2.1 h.1).2.2 (by omega);have a:x.g0=i:=by unfold Hp.g0;rw[e];simp
 rw[a]at this;exact this;split at e
 ·rename_i h;have a:x.I.toNat=i:=by omega
  have:=(s.r6.2.2.1 h.1).2;rw[a]at this;exact this ⟨by omega,b⟩
 omega
theorem c4s(x:Hp)(b:Nat)(w:World)(h:HAt w b x ar kr ac kc ag kg)(K:x.A.length<=8000):
  Calls prog 133 #[pP b] w λe w'=>∃r:Int,Hid (e=.returned (iv r))/\Hid (qV x x.A.length r)/\Ext w w':=by
 have z:=uU h;have m:=h.c4;go_in;go_wp21;go_loopw [3,11] (λa i wr=>∃(k:Nat)(r:Int),k<=x.A.length/\i=iv k/\a=iv r/\Hid (qV x k r)/\Ext w wr) (λ_ i _=>x.A.length-(intOf i).toNat)
 case atStart=>exact⟨0,-1,kB _,rfl,rfl,.inl ⟨rfl,λi s=>by omega⟩,hO w⟩
 case round=>
  obtain⟨k,r,L,rfl,rfl,f,d⟩:=hrel;by_cases j:k<x.A.length
  ·have l:=z.ext d;have m:=l.c4;obtain⟨p,Q,N,S,rfl,C⟩:=l.cell k j;have G:=C.p0;have M:=C.p1;have O:=C.p2;have U:=C.p3;have V:=C.p4;have P:=C.p5;have R:=C.p6;have X:=C.p7;have H:=cLt G;have F:=cLt m;have E:=i0N k;have o:(k:Int)<(x.A.length:Int):=by omega
   cases t:((x.c k).U == 2)
   ·have D:=uU (show qV x (k+1) r from f.no (by simpa using t));go_wp21;go_quiet (fail);go_wp2;go_roundw
    case rel=>exact⟨k+1,r,by omega,by go_num,rfl,D,(d.alloc _).drewN _⟩
    simp[intOf];omega
   have T:=uU (show(x.c k).U=2 by simpa using t);obtain rfl|⟨i,rfl,s⟩:=f.form
   ·have D:=uU (f.first T);go_wp21;go_quiet (fail);go_wp2;go_roundw
    case rel=>exact⟨k+1,k,by omega,by go_num,rfl,D,(d.alloc _).drewN _⟩
    simp[intOf];omega
   obtain⟨B,I,J,n,q,v⟩:=l.cell i (by omega);cases q;have W:=v.p4;have u:(i:Int)<(x.A.length:Int):=by omega
   have A:=i0N i;by_cases y:(x.c k).born<(x.c i).born
   ·have D:=uU (f.less T y);go_wp21;go_quiet (fail);go_wp2;go_roundw
    case rel=>exact⟨k+1,k,by omega,by go_num,rfl,D,(d.alloc _).drewN _⟩
    simp[intOf];omega
   have D:=uU (f.more (by omega));go_wp21;go_quiet (fail);go_wp2;go_roundw
   case rel=>exact⟨k+1,i,by omega,by go_num,rfl,D,(d.alloc _).drewN _⟩
   simp[intOf];omega
  have g:k=x.A.length:=by omega
  have D:=uU (show qV x x.A.length r by have:=uH f;rw[g]at this;exact this);go_wp2;go_ret;exact⟨r,rfl,D,d⟩
theorem Snd.reg(s:Snd x)(f:Nat)(a:f<16):hE x (x.r f) False:=by
 have h:=s.r4.1 f (s.r1.B▸a);rw[Hp.r_eq]at h;exact h
theorem Snd.at(s:Snd x)(f:Nat)(e:f<16)(d:(x.r f).k=2):(x.r f).n=0/\(x.r f).a=(x.at f:Int)/\x.at f<x.A.length/\(x.c (x.at f)).st=1/\¬uW x (x.at f):=by
 have h:=s.reg f e;have b:=h.1;unfold uJ at b;have g:(x.r f).a=((x.r f).a.toNat:Int):=by omega
 obtain o|o:=h.2 d;exact o.2.elim;grind[Hp.at,Hp.r,Hp.c,uW]
theorem GAt.pplace[qr](h:GAt B w g x ar kr ac kc vg br bc pb pa pk role)(i:Nat)(S:i<x.A.length)(L:List Pr)(hL:L.length<=pk i)(I:0<pk i)(o:uZ (λq=>q=bc\/q=pb i) w w')(F:Nf1 bc w')(J:Nfp (pb i) (pk i) w')(Z:w'.cell? (aA bc (i*8+7))=some (.slice (pa i) L.length (pk i)))(T:∀j,j≠i*8+7->w'.cell? (aA bc j)=w.cell? (aA bc j))
  (hp:∀k,k<L.length->qY w' (pb i) (k*6) (L.getD k Pr0)) :
  GAt B w' g { x with A:=x.A.set i { x.c i with F:=L } } ar kr ac kc vg br bc pb pa pk role:=by
 have E:0<x.A.length:=by omega
 have l:∀q,q<w.heap.size->role q≠3->role q≠6+i->w'.heap[q]?=w.heap[q]?:=λq b u Y=>o.block q b (λe=>by
  obtain e|e:=e;exact u (e▸h.sp.c E);exact Y (e▸h.sp.p i S I))
 have f:({ x with A:=x.A.set i { x.c i with F:=L } }:Hp).A.length=x.A.length:=by simp
 have K:=Hp.c_set x i { x.c i with F:=L } S;have n:∀q,q≠i->(({ x with A:=x.A.set i { x.c i with F:=L } }:Hp).c q)=x.c q:=λq e=>by rw[K q,if_neg e]
 have t:(({ x with A:=x.A.set i { x.c i with F:=L } }:Hp).c i)={ x.c i with F:=L }:=by rw[K i,if_pos rfl]
 have Q:=l g h.nf.1 (by rw[h.sp.g];omega) (by rw[h.sp.g];omega);have R:∀q,q<x.A.length->q≠i->0<pk q->w'.heap[pb q]?=w.heap[pb q]?:=λq b U f=>l (pb q) (h.rw.pl q b f).2.1.1 (by rw[h.sp.p q b f];omega) (by rw[h.sp.p q b f];omega)
 have O:0<x.B.length->w'.heap[br]?=w.heap[br]?:=λu=>l br (h.rw.nr u).1.1 (by rw[h.sp.r u];omega) (by rw[h.sp.r u];omega)
 refine⟨?_,uY h.nf Q o.size,h.lo,h.ha,λ_=>h.hc E,⟨λj A=>?_,λq b=>?_,λq b=>?_,λq b j A=>?_,λq b z=>?_,λu=>⟨uY (h.rw.nr u).1 (O u) o.size,(h.rw.nr u).2⟩,λ_=>⟨F,(h.rw.nc E).2⟩,λ_=>h.rw.d E,λq X b C H G W=>?_,λq b=>?_⟩,h.gr.block (λq b=>l q (h.gr.lt q b).2 (by rw[h.sp.y q b];omega) (by rw[h.sp.y q b];omega)),⟨h.sp.g,h.sp.r,λ_=>h.sp.c E,h.sp.y,λq b z=>?_⟩,f▸h.kl,h.pr.of (λq b G=>l q b (by rw[G];omega) (by rw[G];omega)) (λ_ _ h=>h),λI=>(h.cc I).A rfl F (λj v _ hv=>?_),λn=>h.rob n (O n)⟩;rw[f];exact h.bx.block Q;exact(h.rw.r j A).of λm _=>cOb br _ (O (by have:j<x.B.length:=A;omega))
 rw[f]at b;have D:S7 w' bc (q*8) (x.c q):=(h.rw.s q b).of λm hm=>T _ (by omega)
 by_cases e:q=i;subst e;rw[t];exact D;rw[n q e];exact D;rw[f]at b;by_cases e:q=i
 ·subst e;rw[t];exact Z
 rw[n q e,T _ (by omega)];exact h.rw.p7 q b;rw[f]at b;by_cases e:q=i
 ·subst e;rw[t]at A ⊢;exact hp j A
 rw[n q e]at A ⊢;exact(h.rw.p q b j A).of λm _=>cOb (pb q) _ (R q b e (h.rw.pw b (by omega)))
 rw[f]at b;have⟨P,V,N,M⟩:=h.rw.pl q b z;by_cases e:q=i
 ·subst e;exact⟨P,J,N,M⟩
 exact⟨P,eN V (R q b e z) o.size,N,M⟩;rw[f]at b C;exact h.rw.dp q X b C H G W;rw[f]at b;by_cases e:q=i
 ·subst e;rw[t];exact hL
 rw[n q e];exact h.rw.kp q b;rw[f]at b;exact h.sp.p q b z;grind[Nf1,qY,Pr0,Hp.c]
abbrev moreP(x:Hp)(i:Nat):Hp:={ x with A:=x.A.set i { x.c i with F:=(x.c i).F++[Pr0] } }
structure AppP[qr](B:Nat)(g:Nat)(x:Hp)(ar:Option Addr)(kr:Nat)(ac:Option Addr)(kc:Nat)(vg:Value)(br bc:Nat)(i:Nat)(v w:World)(a':Option Addr)(k':Nat)(w':World):Prop where
 gk:∀W,Ext w' W->GK B (W.setCell ⟨bc,i*8+7,none⟩ (.slice a' ((x.c i).F.length+1) k')) g (moreP x i) ar kr ac kc vg br bc
 far:∀q,q=g\/q=bc->w'.heap[q]?=w.heap[q]?
 sz:w.heap.size<=w'.heap.size
 ex:Ext v w'
 nf:Nf1 bc w'
theorem c8i(L:List Pr):L.flatMap fP++fP Pr0=(L++[Pr0]).flatMap fP:=by simp
theorem d1t[qr]{B:Nat}{w:World}{g:Nat}{x:Hp}{ar:Option Addr}{kr:Nat}{ac:Option Addr}{kc:Nat}{vg:Value}{br bc:Nat}{pb:Nat->Nat}{pa:Nat->Option Addr}{pk:Nat->Nat}{role:Nat->Nat}(h:GAt B w g x ar kr ac kc vg br bc pb pa pk role)(i:Nat)(A:i<x.A.length)(r0:0<x.B.length)(h2:(x.c i).F.length<200)(X:TypeId)(d:World)(D:Ext w d)(ad:Addr)(c:Nat)(hz:∀j u,(fP Pr0)[j]?=some u->d.cell? (ad.add j)=some u)(v:World)(hv:v.heap.size<=B)(hx:Ext v w):
  ∃a' k' w',(Builtin.append_ #[49,49] X #[.slice (pa i) (x.c i).F.length (pk i),.slice (some ad) 1 c]).run prog d=.ok (.slice a' ((x.c i).F.length+1) k') w'/\AppP B g x ar kr ac kc vg br bc i v w a' k' w':=by
 have t:=h.ext D;have⟨Z,F,T,y,R⟩:=info_parts a2n;have hn:0<x.A.length:=by omega
 have K:∀u∈fP Pr0,u.oneCell'=true:=λu E=>by simp[fP,Pr0]at E;subst E;rfl
 have r:=(t.rw.nc hn).1;have lk:=t.rw.kp i A;by_cases hr:(x.c i).F.length+1<=pk i;have s:0<pk i:=by omega
 have⟨a1,L,a3,a4⟩:=t.rw.pl i A s;have f:=run_append_room_cells (P:=prog) d 49 X 53 Z underlying49 F (pb i) 0 (x.c i).F.length (pk i) ad 1 c (fP Pr0) (by rw[y];rfl) hz K hr (λj I=>by
  have I:j<6:=I;have⟨u,E⟩:=L.3 (0+(x.c i).F.length*Z.size+j) (by rw[y];omega);rw[E];rfl) (λj _=>L.2 _)
 rw[y,kO]at f;have H:uZ (λq=>q=pb i) d (d.setCells (pb i) ((x.c i).F.length*6) (fP Pr0)):=a1d (S:=λq=>q=pb i) rfl (uZ.refl _ d);have G:bc≠pb i:=λe=>a3.2 e.symm
 have N:=H.block bc r.1 G;refine⟨pa i,pk i,_,a1▸f,⟨λW e=>⟨pb,pa,pk,role,?_⟩,λq J=>?_,kA D.size H.size,H.ext (hx.trans D) (λq J e=>by omega),uY r N H.size⟩⟩;have oW:uZ (λq=>q=pb i) d W:=H.trans (uZ.of_ext e);have fW:=oW.block bc r.1 G;refine t.pplace i A ((x.c i).F++[Pr0]) (by simpa using hr) s (uZ.setCell (oW.mono (λq e=>.inr e)) (p:=(aA bc (i*8+7))) (.inl rfl) _) ((uY r fW oW.size).set _ _) ((L.put.ext e).set _ _) ?_ (λj I=>?_) (λk s=>?_)
 ·rw[ko];exact kM _ _ _ ((cOb bc (i*8+7) fW).trans (t.rw.p7 i A))
 rw[uC _ (.inr (λe=>I e.symm))];exact cOb bc j fW;have O:∀m,(W.setCell (aA bc (i*8+7)) (.slice (pa i) ((x.c i).F.length+1) (pk i))).cell? (aA (pb i) m)=(d.setCells (pb i) ((x.c i).F.length*6) (fP Pr0)).cell? (aA (pb i) m):=λm=>by
  rw[uC _ (.inl (λe=>G e))];exact(cE e).1 (pb i) m (kF L.1 H.size)
 by_cases ek:k<(x.c i).F.length;have C:((x.c i).F++[Pr0]).getD k Pr0=(x.c i).p k:=by simp[Cl.p,List.getElem?_append_left ek]
 rw[C];exact(t.rw.p i A k ek).of λj I=>by rw[O,a1v (pb i) _ _ _ d (by omega)]
 have aa:k=(x.c i).F.length:=by simp at s;omega
 subst aa;have C:((x.c i).F++[Pr0]).getD (x.c i).F.length Pr0=Pr0:=by simp
 rw[C];have n:∀m,m<6->(W.setCell (aA bc (i*8+7)) (.slice (pa i) ((x.c i).F.length+1) (pk i))).cell? (aA (pb i) ((x.c i).F.length*6+m))=(fP Pr0)[m]?:=λm hm=>by
  rw[O];exact a4p (pb i) (fP Pr0) _ m d (λm hm=>L.3 _ (by have:m<6:=hm;omega)) hm
 exact⟨n 0 (by omega),n 1 (by omega),n 2 (by omega),n 3 (by omega),n 4 (by omega),n 5 (by omega)⟩;obtain rfl|rfl:=J
 ·refine(H.block q t.nf.1 ?_).trans (D.block q h.nf.1);exact(λe=>by have s1:=h.sp.g;have s2:=h.sp.p i A s;rw[e]at s1;omega)
 exact N.trans (D.block q (h.rw.nc hn).1.1);have M:∃U w',(Builtin.append_ #[49,49] X #[.slice (pa i) (x.c i).F.length (pk i),.slice (some ad) 1 c]).run prog d=.ok U w'/\w'.ownsRow d.heap.size 53 6 U ((x.c i).F.length+1) ((x.c i).F.flatMap fP++fP Pr0)/\d.grownBy w' none:=by
  have V:(x.c i).F.length+1<=maxLen:=by unfold maxLen;omega
  cases ep:pa i with
  | none=>
   have Q:pk i=0:=by
    obtain Q|Q:=mN (pk i);exact Q;have:=(t.rw.pl i A Q).1;rw[ep]at this;cases this
   have l0:(x.c i).F=[]:=mU (by omega);rw[Q,l0];have⟨U,w',r1,r2,r3,_⟩:=run_append_own (P:=prog) d d.heap.size 49 X 53 Z _ 6 48 underlying49 F T y R rfl (by decide) (.slice none 0 0) 0 [] (mB d _ _ _) ad 1 c (fP Pr0) rfl hz K (by unfold maxLen;omega) (by decide) (hT _);exact⟨U,w',r1,r2,r3⟩
  | some b=>
   refine run_append_arg_grows (P:=prog) d 49 X 53 Z _ 6 48 underlying49 F T y R rfl (by decide) b _ _ ((x.c i).F.flatMap fP) (a9c _) (λj u E=>?_) ad 1 c (fP Pr0) rfl hz (by omega) V (by omega);have I:j<((x.c i).F.flatMap fP).length:=by
    obtain q|q:=ky j ((x.c i).F.flatMap fP).length;exact q;rw[na q]at E;cases E
   rw[a9c]at I;have s:0<pk i:=by omega
   have Y:=(t.rw.pl i A s).1;rw[ep]at Y;rw[Option.some.inj Y,Addr.add_lit];exact fP_at (o:=0) (λk s=>by rw[kO,Cl.p_eq _ _ s];exact t.rw.p i A k s) j u E
 have⟨U,w',f,z,l⟩:=M;have C:Ext d w':=⟨l.os,l.tape,l.output,l.size,λk s=>l.block k s (by simp)⟩;obtain⟨a',k',rfl⟩:=d1j z;refine⟨a',k',w',f,⟨λW e=>?_,λq J=>?_,kA D.size l.size,(hx.trans D).trans C,r.ext C⟩⟩;have ow:W.ownsRow d.heap.size 53 6 (.slice a' ((x.c i).F++[Pr0]).length k') ((x.c i).F++[Pr0]).length (((x.c i).F++[Pr0]).flatMap fP):=by
  rw[<-c8i,ko];exact uN z (λq J=>e.block q (z.lt q J).2)
 have:=c1i t i A r0 ((x.c i).F++[Pr0]) a' k' (C.trans e) ow;rw[ko]at this;exact this;obtain rfl|rfl:=J
 ·exact(C.block q t.nf.1).trans (D.block q h.nf.1)
 exact(C.block q r.1).trans (D.block q (h.rw.nc hn).1.1)
theorem c8j[qr]{ops:Array Oper}{o:Oper}{a:Act}{K:Act->World->Prop}{Q:Exit->Act->World->Prop}{E:Prop}(b:World)(d:o.guard=none)(s y:Operand)
  (m:o.op=.call { callee:=.builtin .append,args:=#[s,y],argTypes:=#[49,49] })
                (h:GAt B w g x ar kr ac kc vg br bc pb pa pk role) (i:Nat) (n:i<x.A.length) (r:0<x.B.length) (z:(x.c i).F.length<200) (p:Ext w b) (ad:Addr) (c:Nat)
  (C:a.eval s=.slice (pa i) (x.c i).F.length (pk i)) (l:a.eval y=.slice (some ad) 1 c) (t:∀j u,(fP Pr0)[j]?=some u->b.cell? (ad.add j)=some u) (v:World) (q:v.heap.size<=B) (D:Ext v w)
  (A:∀a' k' w',AppP B g x ar kr ac kc vg br bc i v w a' k' w'->K (a.put o.dst (.slice a' ((x.c i).F.length+1) k')) w') :
  if Region.wanted o (yielded ops a.tmps)=true then Oper.wp prog o a b K Q else E:=by
 have f:Region.wanted o (yielded ops a.tmps)=true:=by simp[Region.wanted,d]
 rw[if_pos f];have⟨a',k',w',k,e⟩:=d1t h i n r z o.type b p ad c t v q D;unfold Oper.wp execOp;simp only[m,resolve,invoke,builtin,Sem.run_bind,Sem.run_pure,Result.andThen_ok,List.map_toArray,List.map_cons,List.map_nil,C,l,k];exact A a' k' w' e
theorem b9e(x:Hp)(j:Nat)(c:Cl)(a:c.F.length=(x.c j).F.length)(q:Nat):(({ x with A:=x.A.set j c }:Hp).c q).F.length=(x.c q).F.length:=by grind[Hp.c,uZ.A,QFr.A,yQ.set,Nf1.set,Hp.c_set]
theorem b7n(x:Hp)(j q:Nat):((uK x j).c q).F.length=(x.c q).F.length:=by grind[uK,Hp.c,b9e,yV]
theorem b1u(x:Hp)(y:Wd)(q:Nat):((uX x y).c q).F.length=(x.c q).F.length:=by grind[uX,Hp.c,b7n]
theorem b9f(q:Nat):∀(ys:List Wd)(z:Hp),((ys.foldl uX z).c q).F.length=(z.c q).F.length
 | [],_=>rfl
 | y::ys,z=>(b9f q ys (uX z y)).trans (b1u z y q)
theorem uprs1(x:Hp)(q:Nat):((eH x).c q).F.length=(x.c q).F.length:=by
 unfold eH;split
 ·rfl
 ·by_cases e:kZ (x.c x.I.toNat)=true
  ·simp only[if_pos e];exact b7n x _ q
  ·simp only[if_neg e];rfl
theorem uprs2(x:Hp)(q:Nat):((dW x).c q).F.length=(x.c q).F.length:=by
 unfold dW;split
 ·rename_i g G _;split
  ·exact(b1u _ _ q).trans (b1u _ _ q)
  ·grind[b9e,a1w,Hp.c,dW]
 ·split
  ·exact b9f q x.B x
  ·exact b9f q x.B x
theorem uprs5(x:Hp)(q:Nat):((dK x).c q).F.length=(x.c q).F.length:=by
 unfold dK;split
 ·rfl
 ·grind[b9e,Snd.I,zK,Hp.c,Add.sub,dK]
theorem take_at{α:Type}(l:List α)(m q:Nat)(d:α)(h:q<m):(l.take m).getD q d=l.getD q d:=by simp[h]
theorem uprs3(x:Hp)(s:Snd x)(f:x.E=3)(q:Nat)(g:q<x.A.length)(e:(x.c q).st=1)(d:¬uW x q):((dD x).c q).F.length=(x.c q).F.length:=by
 have a:=s.r1.I;unfold dD;split
 ·rfl
 ·have b:x.I.toNat<x.A.length:=by omega
  split
  ·grind[uZ.A,QFr.A,yQ.set,Nf1.set,Snd.I,Cl0,Hp.c,Hp.c_set,uW,whB]
  ·grind[b9e,Snd.I,tC,Hp.c,uW,dD]
theorem uprs6(x:Hp)(s:Snd x)(q:Nat)(k:q<x.A.length)(j:(x.c q).st=1):((dX x).c q).F.length=(x.c q).F.length:=by
 have g:=s.r1.I;unfold dX;split
 ·rfl
 ·have e:∀i,i<x.A.length->((dV x i).c q)=x.c q:=λi f=>by
   unfold dV;split
   ·grind[uZ.A,QFr.A,yQ.set,Nf1.set,Cl0,Hp.c,Hp.c_set,Hp.at,Snd.at,dX]
   ·rfl
  have a:=e (x.I-1).toNat (by omega);unfold tZ;split
  ·rename_i d;have h:q≠(x.I-1).toNat:=λu=>by grind[Snd.I,Hp.at,Snd.at,Hp.c,dX]
   have b:q<(x.I-1).toNat:=by
    have l:(dV x (x.I-1).toNat).A.length=x.A.length:=by unfold dV;split <;> simp
    have:=d.1;omega
   rw[<-a];show(((dV x (x.I-1).toNat).A.take (x.I-1).toNat).getD q Cl0).F.length=_;rw[take_at _ _ _ _ b];rfl
  ·rw[a]
theorem b2z(x:Hp)(y:Wd):(uX x y).B=x.B:=by grind[uX,cC]
theorem b1v:∀(ys:List Wd)(z:Hp),(ys.foldl uX z).B=z.B
 | [],_=>rfl
 | y::ys,z=>(b1v ys (uX z y)).trans (b2z z y)
theorem uregs1(x:Hp):(eH x).B=x.B:=by
 unfold eH;split;rfl;by_cases e:kZ (x.c x.I.toNat)=true
 ·simp only[if_pos e];exact(cC x _).2.2.2.1
 simp only[if_neg e]
theorem uregs2(x:Hp):(dW x).B=x.B:=by
 unfold dW;split;grind[b2z,dW];split
 ·exact b1v x.B x
 exact b1v x.B x
theorem uregs3(x:Hp):(dD x).B=x.B:=by
 unfold dD;split;rfl;split <;> rfl
theorem uregs5(x:Hp):(dK x).B=x.B:=by
 unfold dK;split;rfl;split <;> rfl
theorem uregs6(x:Hp):(dX x).B=x.B:=by
 unfold dX tZ;split;rfl;split <;> rfl
def KpN(x y:Hp)(a:Nat):Prop:=(y.r a).k=2/\(y.c (y.at a)).F.length=(x.c (x.at a)).F.length
theorem KpN.same(e:y.B=x.B)(b:(x.r a).k=2)(d:(y.c (x.at a)).F.length=(x.c (x.at a)).F.length):KpN x y a:=by grind[KpN,yQ.same,Hp.r,Hp.c,Hp.at,Snd.at]
theorem KpN.unit4(s:Snd x)(l:a<16)(d:(x.r a).k=2):KpN x (unit4 x) a:=by
 have⟨_,n,m,o,_⟩:=s.at a l d;unfold Go.Proofs.YtgkpaibbdkggiaaGreatDoor.unit4;split;exact KpN.same rfl d rfl;rename_i b;have⟨t,h⟩:=obE (uE x);have j:=a0i x;obtain⟨l1,_⟩|⟨f,l1,l2,l3,_⟩:=a1y x x.A.length
 ·omega
 rw[l1]at b ⊢;rw[<-h]at j b ⊢;have i:((f:Int)).toNat=f:=by omega
 rw[i];have p:∀q,(qK x t f).c q=if q=f then mvC t else if q=t then x.c f else x.c q:=λq=>by grind[qK,Hp.c,mvC,uZ.A,QFr.A,yQ.set,Nf1.set,Hp.c_set,KpN,unit4]
 have g:(qK x t f).r a=mvW t f (x.r a):=by grind[qK,Hp.r,mvW,Wd0,KpN,unit4]
 unfold KpN Hp.at;rw[g];unfold mvW;by_cases e:(x.r a).a=(f:Int);grind[qK,Hp.c,KpN,unit4,Hp.r];grind[Hp.r,Hp.at,Snd.at,KpN,unit4]
theorem KpN.unit(s:Snd x)(c:a<16)(b:(x.r a).k=2):KpN x (cJ x) a:=by grind[KpN,Snd.unit,Hp.r,cJ,Hp.at,Snd.at,yQ.same,KpN.same,uregs1,uprs1,uregs2,uprs2,uregs3,uprs3,KpN.unit4,unit4,uregs5,uprs5,uregs6,uprs6]
theorem KpN.it{x:Hp}(s:Snd x){a:Nat}(ha:a<16)(h2:(x.r a).k=2):∀k,KpN x (itU k x) a
 | 0=>⟨h2,rfl⟩
 | k+1=>by
  have i:=KpN.it s ha h2 k;have j:=KpN.unit (s.itU k) ha i.1;exact⟨j.1,j.2.trans i.2⟩
theorem KpN.M{u:Nat}(s:Snd x)(g:a<16)(f:(x.r a).k=2)(h:tY x u z):KpN x z a:=by
 obtain h|⟨_,y,c,l⟩:=h;rw[h.2];exact⟨f,rfl⟩;have d:=s.forceTo;have b:=c.snd d;have⟨k,_,e⟩:=c;have⟨m,_,n⟩:=l;have i:KpN (forceTo x) y a:=e▸KpN.it d g f k;have j:KpN (dC y 1 0) z a:=n▸KpN.it (b.1.begin b.2) g i.1 m;exact⟨j.1,j.2.trans i.2⟩
theorem a7e.snd(s:Snd x)(f:a<16)(p:(x.r a).k=2)(q:i=x.at a)(h:a7e x a c i y cd nm):Snd y:=by
 obtain h|⟨n,z,b,h|h⟩:=h.2;rw[h.2.1];exact s;rw[h.2.1];exact b.snd s;have d:=b.snd s;have⟨o,j⟩:=KpN.M s f p b;have⟨_,_,l,m,_⟩:=d.at a f o;have g:z.K+c<=z.M:=by have e:=h.1;unfold zV at e;exact of_decide_eq_true e
 exact h.2.2.snd (d.grow (z.at a) c l m (by rw[j,<-q];exact n) g)
def a1b(x:Hp)(H:Nat->Bool)(k:Nat)(z:Hp):Hp:=
 if H k=true then { z with A:=z.A.set k (a7c x H (x.c k)),K:=z.K-qC x H (x.c k) (x.c k).F,sub:=zW x H k z.sub }
 else if (x.c k).U=1 then { z with A:=z.A.set k (b5b (x.c k)) } else z
def stTo(x:Hp)(H:Nat->Bool):Nat->Hp
 | 0=>x
 | k+1=>a1b x H k (stTo x H k)
def a2i(x y:Hp):Prop:=x.M=y.M/\x.born=y.born/\x.B=y.B/\x.E=y.E/\x.I=y.I/\x.D=y.D/\x.per=y.per/\x.V=y.V/\x.Q=y.Q/\x.S=y.S
theorem a2i.refl(x:Hp):a2i x x:=by grind[a2i]
theorem hp_eq(r:a2i x y)(t:x.K=y.K)(u:x.sub=y.sub)(s:x.A.length=y.A.length)(p:∀q,q<x.A.length->x.c q=y.c q):x=y:=by
 have e:x.A=y.A:=List.ext_getElem s λi b d=>by rw[Hp.c_eq x i b,Hp.c_eq y i d];exact p i b
 have⟨h,l,g,k,f,o,j,m,n,a⟩:=r;cases x;cases y;simp only at *;subst h l g k f o j m n a t u e;rfl
theorem a3p(x:Hp)(H:Nat->Bool):∀k,a2i (stTo x H k) x
 | 0=>a2i.refl x
 | k+1=>by
  have ih:=a3p x H k;show a2i (a1b x H k (stTo x H k)) x;unfold a1b;split;exact ih;grind[a2i,stTo]
theorem b5i(x:Hp)(H:Nat->Bool):∀k,a2i (cY x H k) x
 | 0=>a2i.refl x
 | k+1=>by
  have ih:=b5i x H k;unfold cY;split;exact ih;exact ih
theorem b5j(x z:Hp)(H:Nat->Bool):∀k,a2i (zY x z H k) z/\(zY x z H k).K=z.K/\(zY x z H k).sub=z.sub
 | 0=>⟨a2i.refl z,rfl,rfl⟩
 | k+1=>by
  have ih:=b5j x z H k;unfold zY;split;exact ih;exact ih
theorem a2j(x:Hp)(H:Nat->Bool):∀k,(stTo x H k).A.length=x.A.length
 | 0=>rfl
 | k+1=>by
  have ih:=a2j x H k;show(a1b x H k (stTo x H k)).A.length=_;unfold a1b;split;simpa using ih;grind[stTo]
theorem b5k(x:Hp)(H:Nat->Bool):∀k,(stTo x H k).K=(cY x H k).K/\(stTo x H k).sub=(cY x H k).sub
 | 0=>⟨rfl,rfl⟩
 | k+1=>by
  have ih:=b5k x H k;show(a1b x H k (stTo x H k)).K=_/\(a1b x H k (stTo x H k)).sub=_;unfold a1b cY;by_cases h:H k=true;grind[stTo,cY,zW,Add.sub];grind[stTo,cY]
theorem set_c(z:Hp)(u s:Int)(k:Nat)(c:Cl)(a:k<z.A.length)(q:Nat):({ z with A:=z.A.set k c,K:=u,sub:=s }:Hp).c q=if q=k then c else z.c q:=Hp.c_set z k c a q
theorem b1w(x:Hp)(H:Nat->Bool):∀k,k<=x.A.length->∀q,(stTo x H k).c q=if q<k then stlC x H q else x.c q
 | 0,_,q=>by rw[if_neg (by omega)];rfl
 | k+1,hk,q=>by
  have ih:=b1w x H k (by omega) q;have hl:k<(stTo x H k).A.length:=by rw[a2j];omega
  show(a1b x H k (stTo x H k)).c q=_;have key:(a1b x H k (stTo x H k)).c q=if q=k then stlC x H k else (stTo x H k).c q:=by grind[cU.key,qX.key,a1b,stTo,Hp.c,stlC,set_c,cU.U,Hp.c_set]
  rw[key,ih];by_cases e:q=k;grind[stTo,Hp.c,stlC];grind[stTo,Hp.c,stlC]
theorem c1p(x z:Hp)(H:Nat->Bool):∀k,k<=z.A.length->∀q,(zY x z H k).c q=if q<k/\kW x H q=true then b5b (x.c q) else z.c q
 | 0,_,q=>by rw[if_neg (by omega)];rfl
 | k+1,hk,q=>by
  have ih:=c1p x z H k (by omega) q;have hl:k<(zY x z H k).A.length:=by rw[a3o];omega
  unfold zY;by_cases h:kW x H k=true;grind[Hp.c_set,zY,b5b,Hp.c,kW];grind[kW,Grw.at,zY,Hp.c,b5b]
theorem a4d(x:Hp)(H:Nat->Bool):stTo x H x.A.length=a1u x H:=by
 have d:=b5j x (cY x H x.A.length) H x.A.length;have u:=b5k x H x.A.length;have E:(cY x H x.A.length).A.length=x.A.length:=a2c x H _;refine hp_eq ?_ (u.1▸d.2.1.symm) (u.2▸d.2.2.symm) ?_ λq M=>?_
 have⟨n,D,C,J,f,A,z,k,F,b⟩:=d.1;have⟨o,p,t,G,r,K,w,v,h,e⟩:=b5i x H x.A.length;have⟨i,L,m,I,j,B,g,y,l,a⟩:=a3p x H x.A.length;exact⟨i.trans (n.trans o).symm,L.trans (D.trans p).symm,m.trans (C.trans t).symm,I.trans (J.trans G).symm,j.trans (f.trans r).symm,B.trans (A.trans K).symm,g.trans (z.trans w).symm,y.trans (k.trans v).symm,l.trans (F.trans h).symm,a.trans (b.trans e).symm⟩;rw[a2j];unfold a1u;rw[a3o,a2c];grind[a2j,Grw.at,b1w,a1u,c1p,b0f,stlC,kW,Hp.c,cU.U]
theorem c6r(x:Hp)(H:Nat->Bool)(k:Nat)(a:k<=x.A.length)(q:Nat):((stTo x H k).c q).st=(x.c q).st/\((stTo x H k).c q).to=(x.c q).to:=by
 rw[b1w x H k a q];split;unfold stlC;split
 ·exact⟨rfl,rfl⟩
 split <;> exact⟨rfl,rfl⟩
 exact⟨rfl,rfl⟩
theorem c1u(x:Hp)(b n cap:Nat)(a:Option Addr)(f:Nat->Pr)(s:Bool)(l:s=true↔∃k,k<n/\(hwB x (f k).key=true\/hwB x (f k).val=true))(w:World)(h:VAt w b x ar kr ac kc ag kg an kn)
  (i:n<=35184372088832) (P:∀k,k<n->∃b' o',a=some (aA b' o')/\qY w b' (o'+k*6) (f k)) (j:∀k,k<n->uJ (f k).key x.A.length/\uJ (f k).val x.A.length) :
  Calls prog 169 #[pP b,.slice a n cap] w λe w'=>e=.returned (.bool s)/\Ext w w':=
 (a9s x b n cap a f w h i P j).mono λe w' ⟨r,c,g,d⟩=>by
  have:r=s:=by rw[Bool.eq_iff_iff];exact g.trans l.symm
  rw[<-this];exact⟨c,d⟩
theorem b6w(x:Hp)(b:Nat)(w:World)(h:VAt w b x ar kr ac kc ag kg an kn)(ah:a6a w x ac)(r1:R1 x)(r2:R2 x)(r4:R4 x)(r5:R5 x)(r6:R6 x):
  Calls prog 104 #[pP b] w λe w'=>∃r:Bool,Hid (e=.returned (.bool r))/\(r=true↔R7 x)/\Ext w w':=by
 have c5:=h.H.c5;have ay:=h.n13;have HV:=uU h;have ad:=uU ah;have lc:=h.H.lc;have aj:0<=x.sub:=r1.sub.1;have Q2:=uU r2;have Q4:=uU r4;have Q5:=uU r5;have Q6:=uU r6;cases tm:a1i x
 ·have Y:=uU (show R7 x from λm=>by rw[<-a2e,tm]at m;simp at m);go_in;go_wp21;refine(a8w x b false tm _ c5).mono ?_;rintro e w1 ⟨rfl,rfl⟩;go_wp2;go_ret;exact⟨true,rfl,⟨λ_=>uH Y,λ_=>rfl⟩,hO _⟩
 have Z:=uU (a2e.1 tm);have z:=uU (R7_iff Q2 Q4 Q5 Q6 Z);go_in;go_wp21;refine(a8w x b true tm _ c5).mono ?_;rintro e w1 ⟨rfl,rfl⟩;go_wp21;go_loopw [13] (λi wr=>∃(k:Nat),k<=x.A.length/\i=iv k/\Hid (∀i,i<k->¬(a0p (x.c i)=true/\tH (x.c i)=true/\(x.E=2\/(i:Int)<x.I))/\((x.c i).J=2->¬∃k,k<(x.c i).F.length/\(hwB x ((x.c i).p k).key=true\/hwB x ((x.c i).p k).val=true)))/\Ext w1 wr) (λi _=>x.A.length-(intOf i).toNat)
 case atStart=>exact⟨0,kB _,rfl,λj hj=>by omega,hO _⟩
 case round=>
  obtain⟨k,J,rfl,HA,a⟩:=hrel;by_cases v:k<x.A.length
  ·have T:=HV.ext a;obtain⟨F,I,bc,oc,rfl,rfl,m0,O⟩:=T.N k v;obtain⟨aw,au,y,o,e2,C⟩:=T.H.cell k v;cases e2;have ba:=T.n13;have d:=uU T;have M:=uU C;have af:=uU C.P;have p5:=C.p5;have p7:=C.p7;have lp:=C.lp;have bd:=i0N k;have aq:(k:Int)<(x.A.length:Int):=by omega
   have V:=uU (λl (hl:l<(x.c k).F.length)=>(a8x Q4 Z k l v hl).1);have ST:=uU (show ¬(a0p (x.c k)=true/\tH (x.c k)=true/\(x.E=2\/(k:Int)<x.I))->((x.c k).J=2->¬∃l,l<(x.c k).F.length/\(hwB x ((x.c k).p l).key=true\/hwB x ((x.c k).p l).val=true))->∀i,i<k+1->¬(a0p (x.c i)=true/\tH (x.c i)=true/\(x.E=2\/(i:Int)<x.I))/\((x.c i).J=2->¬∃k,k<(x.c i).F.length/\(hwB x ((x.c i).p k).key=true\/hwB x ((x.c i).p k).val=true)) from λh1 h2 j hj=>by
    by_cases e:j=k;rw[e];exact⟨h1,h2⟩;exact HA j (by omega))
   go_upto_region 7 with fail;go_cut [32] from 22 to 31 (λv W=>∃u:Bool,v=.bool u/\Hid (u=(a0p (x.c k) && tH (x.c k) && ((x.E == 2) || decide ((k:Int)<x.I))))/\Hid (Ext wr W))
   case first=>
    go_wp21;refine(a8t (x.c k) F (I+k*2) _ _ y o _ O M).mono ?_;rintro e w2 ⟨rfl,rfl⟩;cases W:a0p (x.c k)
    ·go_wp21;go_meet;exact⟨_,rfl,by show _=_;rw[W];rfl,hO _⟩
    go_wp21;refine(b1j (x.c k) F (I+k*2) _ _ y o _ O M).mono ?_;rintro e w3 ⟨rfl,rfl⟩;cases tw:tH (x.c k)
    ·go_wp21;go_meet;exact⟨_,rfl,by show _=_;rw[W,tw];rfl,hO _⟩
    go_wp21;refine(b8s x b F (I+k*2) k _ d.H.c5 d.H.c6 m0).mono ?_;rintro e w4 ⟨rfl,u⟩;go_wp21;go_meet;exact⟨_,rfl,by show _=_;rw[W,tw];rfl,u⟩
   case rest=>
   obtain⟨u,rfl,U,E⟩:=hcut;have G:=uU (a.trans E);cases u;rotate_left
   ·have N:=uU (show ¬R7 x from λK=>((z.1 K).1 k v).1 (by have:=uH U;simp at this;exact⟨this.1.1,this.1.2,this.2⟩));go_wp2;go_ret;exact⟨false,rfl,fNo N,G⟩
   have L:=uU (show ¬(a0p (x.c k)=true/\tH (x.c k)=true/\(x.E=2\/(k:Int)<x.I)) from λq=>by have:=uH U;simp[q.1,q.2.1]at this;omega);have O:=E.keep O;have p5:=E.keep p5;have p7:=E.keep p7;cases B:((x.c k).J == 2)
   ·have D:=uU (ST L (λe=>by rw[e]at B;simp at B));go_wp2;go_roundw
    case rel=>exact⟨k+1,by omega,by go_num,D,G⟩
    simp[intOf];omega
   go_wp21;refine(a9s x b (x.c k).F.length o y (x.c k).p _ (HV.ext G) lp (M.ext E).P V).mono ?_;rintro e w6 ⟨r,rfl,R,A⟩;have Q:=kI G A;cases r
   ·have D:=uU (ST L (λ_ q=>by have:=R.2 q;simp at this));go_wp2;go_roundw
    case rel=>exact⟨k+1,by omega,by go_num,D,Q⟩
    simp[intOf];omega
   have N:=uU (show ¬R7 x from λK=>((z.1 K).1 k v).2 (by simpa using B) (R.1 rfl));go_wp2;go_ret;exact⟨false,rfl,fNo N,Q⟩
  have A1:=uU (show R7b x from λi hi=>uH HA i (by omega));have T:=HV.ext a;have d7:=T.H.c7;have d:=uU T;obtain⟨s,hs⟩:∃s:Nat,x.sub=(s:Int):=⟨x.sub.toNat,by omega⟩;rw[hs]at d7;have HS:=uU hs;have F0:∀w',Up wr w'->w'.cell? (aA b 7)=some (iv (s:Int)):=λw' e=>e.ext.keep d7
  have al:=uU (show(x.E=2\/s=0)/\(x.D.length=0->s=0)/\(x.D.length≠0->s<=(x.c x.g0).F.length) by
   have S:=uH Q6;have n:=uH Z;have:=uH HS;unfold uD at n;obtain n|n:=n;have:=S.2.2.2 (.inl n);omega;have:=S.2.1 n;omega)
  obtain⟨y,l,o,f,ab,HG,HP,V,ae⟩:∃(y:Option Addr)(l o:Nat)(f:Nat->Pr),s<=o/\Hid (∀w',Up wr w'->Calls prog 164 #[pP b] w' λe w''=>e=.returned (.slice y l o)/\Up wr w'')/\Hid (∀w',Up wr w'->∀k,k<s->∃b' o',y=some (aA b' o')/\qY w' b' (o'+k*6) (f k))/\Hid (∀k,k<s->uJ (f k).key x.A.length/\uJ (f k).val x.A.length)/\Hid (R7c x↔¬∃k,k<s/\(hwB x (f k).key=true\/hwB x (f k).val=true)):=by
   have al:=uH al;by_cases X:x.D.length=0;have d8:=d.H.c8;rw[X]at d8;have:=al.2.1 X;subst this;exact⟨none,0,0,λ_=>Pr0,by omega,λw' e=>a7w ((a6p b w' (e.ext.keep d8)).mono λ_ _ ⟨he,U⟩=>⟨he,U ▸ hO w'⟩) e,λ_ _ k J=>by omega,λk J=>by omega,⟨λ_ ⟨k,J,_⟩=>by omega,λ_ _ g=>(g X).elim⟩⟩;obtain⟨g1,g2,g3⟩:=g0_ok Q5 X;obtain⟨bc,oc,y,o,e2,C⟩:=d.H.cell x.g0 g1;have aa:0<x.D.length:=by omega
   have am:x.D[0]=(x.g0:Int):=by rw[<-g2];simp[aa]
   have av:=al.2.2 X;have e1:x.sub.toNat=s:=by have:=uH HS;omega
   have hc:=(a6a.ext ad HV.H a) x.g0 g1 bc oc y (x.c x.g0).F.length o e2 C.p7;refine⟨y,_,o,(x.c x.g0).p,by omega,λw' e=>a7w ((a6q x b x.g0 w' (d.ext e.ext) aa am g1 bc oc y o e2 (C.ext e.ext)).mono λ_ _ ⟨he,m,U⟩=>⟨he,U ▸ (hO w').drewN m⟩) e,λw' e k J=>(C.ext e.ext).P k (by omega),λl hl=>(a8x Q4 Z x.g0 l g1 (by omega)).1,?_,λh _ _ k J U=>h ⟨k,by rw[e1]at J;exact J,U⟩⟩;rintro h ⟨k,J,U⟩;obtain p|p:=al.1;exact h p X k (by rw[e1];exact J) U;omega
  obtain⟨r,R⟩:∃r:Bool,r=true↔∃k,k<s/\(hwB x (f k).key=true\/hwB x (f k).val=true):=⟨decide _,decide_eq_true_iff⟩;have HW:=uU (λw' (e:Up wr w')=>a7w (c1u x b s o y f r R w' (d.ext e.ext) (by have:=r1.sub;have:=uH HS;omega) (HP w' e) V) e);have Y:=uU (show(!r)=true↔R7 x by
   rw[uH z,uH ae,<-R];simp;exact λ_=>uH A1)
  have i0:=i0N s;have i1:(s:Int)<=(o:Int):=by omega
  clear R V ae HP al;go_wp21;refine wp_region_quiet (C:=Up wr) (by kernel_rfl) (by kernel_rfl) (show Ext _ _ from(eDr _)) ?_;go_simp;iterate 12 (first|go_big_quiet_skip|(go_big_quiet_want;go_big_quiet_op;first|go_big_quiet_on|(apply Exists.intro;refine⟨λw' t=>?_,?_⟩;(first|(go_at_call 164;exact(uH HG w' t))|(go_at_call 169;exact(uH HW w' t))|(with_reducible rfl)|(go_simp;first|done|(with_reducible rfl)|(refine⟨?_,?_⟩ <;> with_reducible rfl)));go_big_quiet_on)))
  refine wpQuiet_nil ?_;intro w3 E;go_wp2;go_ret;exact⟨!r,rfl,Y,a.trans E.ext⟩
theorem SAt.setp[qr](h:SAt B w b x ar kr v4 v8 br cB cO bn pb pa pk kn hd vf F vk K role)(i:Nat)(O:i<x.A.length)(k:Nat)(P:k<(x.c i).F.length)(A:Pr)(o:uZ (λq=>q=pb i) w w')(nf:Nf1 (pb i) w')(hp:qY w' (pb i) (k*6) A)(ho:∀j,(j<k*6\/k*6+6<=j)->w'.cell? (aA (pb i) j)=w.cell? (aA (pb i) j)):
  SAt B w' b { x with A:=x.A.set i { x.c i with F:=(x.c i).F.set k A } } ar kr v4 v8 br cB cO bn pb pa pk kn hd vf F vk K role:=by
 have I:0<(x.c i).F.length:=by omega
 have u:∀q,q<w.heap.size->role q≠6+i->w'.heap[q]?=w.heap[q]?:=λq g E=>o.block q g (λe=>E (by rw[e];exact h.sp.p i O (h.rw.pw O I)))
 have t:({ x with A:=x.A.set i { x.c i with F:=(x.c i).F.set k A } }:Hp).A.length=x.A.length:=by simp
 have Q:=Hp.c_set x i { x.c i with F:=(x.c i).F.set k A } O;have v:∀q,q≠i->(({ x with A:=x.A.set i { x.c i with F:=(x.c i).F.set k A } }:Hp).c q)=x.c q:=λq e=>by rw[Q q,if_neg e]
 have H:(({ x with A:=x.A.set i { x.c i with F:=(x.c i).F.set k A } }:Hp).c i)={ x.c i with F:=(x.c i).F.set k A }:=by rw[Q i,if_pos rfl]
 have D:∀q,(({ x with A:=x.A.set i { x.c i with F:=(x.c i).F.set k A } }:Hp).c q).F.length=(x.c q).F.length:=λq=>by grind[Hp.c,Nf1,qY]
 have J:∀q,q<x.A.length->w'.heap[cB q]?=w.heap[cB q]?:=λq g=>u (cB q) (h.rw.nc q g).1.1 (by rw[h.sp.c q g];omega)
 have S:∀q,q<x.A.length->q≠i->0<pk q->w'.heap[pb q]?=w.heap[pb q]?:=λq g W t=>u (pb q) (h.rw.pl q g t).2.1.1 (by rw[h.sp.p q g t];omega)
 have l:=h.sb.same o.size (u b h.sb.nb.1 (by rw[h.sp.b];omega)) (u bn h.sb.lo.2.2.1 (by rw[h.sp.n];omega)) (λq g=>u q (h.sb.fr.own.lt q g).2 (by rw[h.sp.f q g];omega)) (λq g=>u q (h.sb.kp.lt q g).2 (by rw[h.sp.k q g];omega));refine⟨⟨l.bx,l.ha,t▸l.n13,λk P=>l.nd k (by rw[t]at P;exact P),l.fr,l.rg,l.k0,l.kp,l.nb,l.lo⟩,⟨λj z=>?_,λq g=>?_,λq g=>?_,λq g j z=>?_,λq g C=>?_,λE=>⟨uY (h.rw.nr E).1 (u br (h.rw.nr E).1.1 (by rw[h.sp.r E];omega)) o.size,(h.rw.nr E).2⟩,λq g=>⟨uY (h.rw.nc q (by rw[t]at g;exact g)).1 (J q (by rw[t]at g;exact g)) o.size,(h.rw.nc q (by rw[t]at g;exact g)).2⟩,λq g=>h.rw.d q (by rw[t]at g;exact g),λq M g y v N h2=>?_,λq M g y v=>h.rw.dc q M (by rw[t]at g;exact g) (by rw[t]at y;exact y) v,λq g=>?_⟩,⟨h.sp.b,h.sp.n,h.sp.r,λq g=>h.sp.c q (by rw[t]at g;exact g),h.sp.f,h.sp.k,λq g C=>?_⟩,h.pr.of (λq g N=>u q g (by rw[N];omega)) (λ_ _ h=>h)⟩;exact(h.rw.r j z).of λm _=>cOb br _ (u br (h.rw.nr (by have:j<x.B.length:=z;omega)).1.1 (by rw[h.sp.r (by have:j<x.B.length:=z;omega)];omega))
 rw[t]at g;have G:S7 w' (cB q) (cO q) (x.c q):=(h.rw.s q g).of λm _=>cOb (cB q) _ (J q g)
 by_cases e:q=i;subst e;rw[H];exact G;rw[v q e];exact G;rw[t]at g;rw[D q,cOb (cB q) _ (J q g)];exact h.rw.p7 q g;rw[t]at g;rw[D q]at z;by_cases e:q=i
 ·subst e;rw[H];by_cases Y:j=k
  ·grind[Hp.c,Cl.p,Nf1,qY]
  have:({ x.c q with F:=(x.c q).F.set k A }:Cl).p j=(x.c q).p j:=by
   have L:k≠j:=λe=>Y e.symm
   simp[Cl.p,List.getElem?_set_ne L]
  rw[this];exact(h.rw.p q g j z).of λm hm=>ho _ (by omega)
 rw[v q e];exact(h.rw.p q g j z).of λm _=>cOb (pb q) _ (S q g e (h.rw.pw g (by omega)))
 rw[t]at g;have⟨Z,X,R,V⟩:=h.rw.pl q g C;have T:pb q≠br/\∀j,j<({ x with A:=x.A.set i { x.c i with F:=(x.c i).F.set k A } }:Hp).A.length->pb q≠cB j:=⟨R.1,λj z=>R.2 j (by rw[t]at z;exact z)⟩;by_cases e:q=i
 ·grind[b9y,Hp.c,Nf1,qY]
 exact⟨Z,eN X (S q g e C) o.size,T,V⟩;rw[t]at g y;exact h.rw.dp q M g y v N h2;rw[t]at g;rw[D q];exact h.rw.kp q g;rw[t]at g;exact h.sp.p q g C
theorem d2w[qr](h:SAt B w b x ar kr v4 v8 br cB cO bn pb pa pk kn hd vf F vk K role)(o:x.E=5)(i:x.I=x.A.length)(a:World)(q:a.heap.size<=B)(p:Ext a w):
  Calls prog 279 #[.agg #[pP b]] w λe w'=>e=.returned (yY (dK x).E b)/\Hid (SAt B w' b (dK x) ar kr v4 v8 br cB cO bn pb pa pk kn hd vf F vk K role)/\Ext a w':=by
 have E:=uU (show dK x=dC x 6 x.A.length by unfold dK;rw[if_pos i]);have c:=(hO w).alloc (.cells #[pP b] 214);go_in;go_wp21;refine(a4j x.I b x.A.length kn (some (aA bn 0)) _ (c.keep h.sb.bx.2.2.2.2.2.2.1) (c.keep h.sb.n13) (by simpa using i)).mono ?_;rintro e l ⟨rfl,g⟩;have s:l.cell? (aA w.heap.size 0)=some (pP b):=g.keep (by simp[go_sem]);have f:=c.trans g;go_wp21;refine(turn_5 (h.ext f) o a q (p.trans f)).mono ?_;rintro e r ⟨rfl,k,n⟩;go_wp2;go_ret;exact⟨by rw[uH E];rfl,uH E▸uH k,n⟩
theorem c8u[qr](h:SAt B w b x ar kr v4 v8 br cB cO bn pb pa pk kn hd vf F vk K role)(Q:x.A.length<=8000)(D:x.E=5)(i:Nat)(n:x.I=(i:Int))(f:i<x.A.length)(k:Nat)(A:x.sub=(k:Int))(C:¬k<(x.c i).F.length)(a:World)(R:a.heap.size<=B)(G:Ext a w):
  Calls prog 279 #[.agg #[pP b]] w λe w'=>e=.returned (yY (dK x).E b)/\Hid (SAt B w' b (dK x) ar kr v4 v8 br cB cO bn pb pa pk kn hd vf F vk K role)/\Ext a w':=by
 have y:x.I.toNat=i:=by omega
 have E:=uU (show dK x={ x with I:=(i:Int)+1,sub:=0 } by unfold dK;rw[if_neg (by omega),y,if_neg (by omega),n]);have l:=(hO w).alloc (.cells #[pP b] 214);have j:=h.sb.bx.2.2.2.2.2.2.1;rw[n]at j;have z:b<w.heap.size:=h.sb.nb.1;have O:=h.sb.lo.1;have t:=kG n A;go_in;go_wp21;refine(a0w b x.A.length kn bn i _ (l.keep j) (l.keep h.sb.n13) f).mono ?_;rintro e g ⟨rfl,s⟩;have J:g.cell? (aA w.heap.size 0)=some (pP b):=s.keep (by simp[go_sem]);have o:=l.trans s;have d:=h.ext o;have I:=(d.sb.nd i f).2;have N:=d.rw.p7 i f;have j:g.cell? (aA b 6)=some (iv i):=by have:=d.sb.bx.2.2.2.2.2.2.1;rw[t.1]at this;exact this
 have M:g.cell? (aA b 7)=some (iv k):=by have:=d.sb.bx.2.2.2.2.2.2.2.1;rw[t.2]at this;exact this
 have L:=d.sb.nb.2 6;have P:=d.sb.nb.2 7;have r:∀W,Ext g W->SAt B ((W.setCell (aA b 6) (iv ((i:Int)+1))).setCell (aA b 7) (iv 0)) b { x with I:=(i:Int)+1,sub:=0 } ar kr v4 v8 br cB cO bn pb pa pk kn hd vf F vk K role/\Ext a ((W.setCell (aA b 6) (iv ((i:Int)+1))).setCell (aA b 7) (iv 0)):=λW q=>⟨((d.ext q).I _).subs 0,(((G.trans o).trans q).sc b 6 (by omega:a.heap.size<=b) _).sc b 7 (by omega:a.heap.size<=b) _⟩;go_wp21;go_quiet (fail);go_wp2;go_ret;exact⟨by rw[(show(dK x).E=5 by rw[uH E];exact D)];rfl,uH E▸(r _ ((hO g).drewN _)).1,(r _ ((hO g).drewN _)).2⟩
