import Derived.Test.YtolmnenlnpbcfaaGreatDoorLsB
import Derived.Test.YtolmnenlnpbcfaaGreatDoorAd
import Derived.Test.YtolmnenlnpbcfaaGreatDoorSpecH
import Derived.Test.YtolmnenlnpbcfaaGreatDoorDc
set_option maxRecDepth 100000
set_option maxHeartbeats 8000000
namespace Go.Proofs.YtolmnenlnpbcfaaGreatDoor
open Go.RowKit Tryz
attribute [local go_sem ↓] Go.wp_at_zero Go.wp_at_succ
variable{x y z:Hp}{w w' a:World}{base n i k g cap j bs u:Nat}{L M L':List Int}{v v' vw:Value}
def Hp0:Hp:=⟨0,0,0,[],[],0,0,0,[],0,0,0,0⟩
theorem qQ.r5(h:qQ x 0):R5 x:=by grind[qQ,R5]
theorem a6o(x:Hp):∀(k:Nat)(L:List Nat),k<=x.A.length->L.Nodup->(∀i,i∈L->i<k/\(x.c i).st=1)->L.length<=dH (x.A.take k)
 | 0,L,_,_,h=>by
  cases L with
  | nil=>simp
  | cons a L=>have:=(h a (mH ..)).1;omega
 | k+1,L,hk,hn,h=>by
  have e:dH (x.A.take (k+1))=dH (x.A.take k)+cL (x.c k):=by
   rw[a5m x.A k (by omega),Hp.c_eq x k (by omega)]
  by_cases hm:k∈L;have h1:=a6o x k (L.erase k) (by omega) (hn.erase k) (λi hi=>by
   have h2:=h i (List.mem_of_mem_erase hi);have h3:i≠k:=λe=>by rw[e]at hi;exact(List.Nodup.not_mem_erase hn) hi
   exact⟨by omega,h2.2⟩)
  rw[qO hm]at h1;have h4:cL (x.c k)≥1:=by unfold cL;rw[if_pos (h k hm).2];omega
  have h5:0<L.length:=List.length_pos_of_mem hm;omega;have h1:=a6o x k L (by omega) hn (λi hi=>by
   have h2:=h i hi;have h3:i≠k:=λe=>hm (by rw[<-e];exact hi)
   exact⟨by omega,h2.2⟩)
  omega
theorem b4f(d:R5 x):x.D.Nodup:=by
 rw[List.nodup_iff_count];intro g;by_cases f:g∈x.D;have⟨i,h⟩:=d.2.2 g f;have e:((g.toNat:Nat):Int)=g:=by omega
 have b:=d.2.1 g.toNat (by omega);by_cases a:(x.c g.toNat).J=1;have:=b.1 a;unfold cnt at this;rw[e]at this;omega;have:=b.2.1 a;unfold cnt at this;rw[e]at this;omega;grind[R5]
theorem b1j(j:R2 x)(d:R5 x)(g:Int)(b:g∈x.D):(x.c g.toNat).J=1/\(x.c g.toNat).st=1:=by
 have⟨l,k⟩:=d.2.2 g b;have e:((g.toNat:Nat):Int)=g:=by omega
 have a:(x.c g.toNat).J=1:=by
  obtain i|f:=Int.decEq (x.c g.toNat).J 1;have:=(d.2.1 g.toNat (by omega)).2.1 i;unfold cnt at this;rw[e]at this;exact absurd b (nO.1 this);exact f
 refine⟨a,?_⟩;obtain c|c|c:=j.1 g.toNat (by omega);have:=c.2.1.2.2.2.2.1;omega;have:=c.2.1.2.2.2.2.1;omega;exact c.1
theorem a2h(q:qQ x 0):x.D.length<=4000/\∀i,i<x.A.length->eN x i=true->x.D.length<4000:=by
 have⟨r,s,n,_⟩:=q.all;have a:=q.r5;have v:(dH x.A:Int)<=4000:=by have:=n.1;have:=n.2;have:=r.M;omega
 have p:(x.D.map Int.toNat).Nodup:=by
  unfold List.Nodup;rw[nt];exact qP (λt d l e=>l (by have:=(a.2.2 _ t).1;have:=(a.2.2 _ d).1;omega)) (b4f a)
 have k:∀i,i∈x.D.map Int.toNat->i<x.A.length/\(x.c i).st=1/\(x.c i).J=1:=λi b=>by
  obtain⟨g,m,rfl⟩:=mY.1 b;have o:=a.2.2 g m;have f:=b1j s a g m;exact⟨by omega,f.2,f.1⟩
 have o:=a6o x x.A.length (x.D.map Int.toNat) (hT _) p (λi b=>⟨(k i b).1,(k i b).2.1⟩);rw[kz,mZ]at o;refine⟨by omega,λi b d=>?_⟩;have u:(x.c i).st=1/\(x.c i).J=0:=by simp[eN,whB]at d;exact d.2
 have f:=a6o x x.A.length (i::x.D.map Int.toNat) (hT _) (List.nodup_cons.2 ⟨λh=>by have:=(k i h).2.2;omega,p⟩) (λj w=>by grind[a6o,uQ.A,qQ,eN]);rw[kz,mS,mZ]at f;omega
structure Snd(x:Hp):Prop where
 r1:R1 x
 r2:R2 x
 r3:R3 x
 r4:R4 x
 r5:R5 x
 r6:R6 x
 r7:R7 x
 r8:R8 x
theorem qQ.snd(h:qQ x 0):Snd x:=by
 unfold qQ at h;obtain h|h|h|h|h|h|h|h|h:=h;have:=h.2;omega;have:=h.2.2;omega;have:=h.2.2.2;omega;have:=h.2.2.2.2;omega;have:=h.2.2.2.2.2;omega;grind[qQ];grind[qQ];grind[qQ];have⟨a,b,c,d,e,f,g,i,_⟩:=h;exact⟨a,b,c,d,e,f,g,i⟩
theorem Snd.ok(h:Snd x):qQ x 0:=by
 unfold qQ;exact .inr (.inr (.inr (.inr (.inr (.inr (.inr (.inr ⟨h.r1,h.r2,h.r3,h.r4,h.r5,h.r6,h.r7,h.r8,rfl⟩)))))))
theorem a8a(x:Hp)(i:Nat)(a:i<x.A.length)(q:Nat):(uK x i).c q=if eN x i=true/\q=i then yD (x.c i) else x.c q:=by grind[uQ.A,uK,Hp.c,eN,yD,Hp.c_set,tJ.set]
theorem a3m(cs:List Cl)(i:Nat)(c:Cl)(d:i<cs.length)(b:cL c=cL cs[i]):dH (cs.set i c)=dH cs:=by
 induction cs generalizing i with
 | nil=>simp at d
 | cons a cs ih=>
  cases i with
  | zero=>simp[dH]at b ⊢;exact b
  | succ i=>
   have:=ih i (by simpa using d) (by simpa using b);simp[dH]at this ⊢;exact this
theorem cC(x:Hp)(i:Nat):(uK x i).M=x.M/\(uK x i).K=x.K/\(uK x i).born=x.born/\(uK x i).B=x.B/\(uK x i).A.length=x.A.length/\(uK x i).E=x.E/\(uK x i).I=x.I/\(uK x i).sub=x.sub/\(uK x i).per=x.per/\(uK x i).V=x.V/\(uK x i).Q=x.Q/\(uK x i).S=x.S:=by
 unfold uK;split <;> simp
def Cl.un(c:Cl):Cl:={ c with J:=0 }
theorem a6p(x:Hp)(i:Nat)(a:i<x.A.length)(q:Nat):((uK x i).c q).un=(x.c q).un:=by
 rw[a8a x i a q];split;rename_i h;rw[h.2];rfl;rfl
theorem a0g{c d:Cl}(h:c.un=d.un):c.st=d.st/\c.kind=d.kind/\c.T=d.T/\c.U=d.U/\c.born=d.born/\c.to=d.to/\c.F=d.F:=by grind[Hp.c,Cl.un]
theorem b2v(D:uD x)(z:y.E=x.E)(u:y.I=x.I)(W:y.sub=x.sub)(U:y.born=x.born)(N:y.K=x.K)(G:y.M=x.M)(X:y.B=x.B)(E:y.A.length=x.A.length)(v:∀q,(y.c q).un=(x.c q).un)(n:∀q,q<x.A.length->(y.c q).J=(x.c q).J\/((y.c q).st=1/\0<=(y.c q).J/\(y.c q).J<=2))(F:dH y.A=dH x.A)(M:R2 x)(L:R3 x)(V:R4 x):R2 y/\R3 y/\R4 y/\R8 y:=by
 have l:x.E≠3:=by obtain h|h:=D <;> omega
 have K:∀i,¬uW x i:=λi h=>l h.1
 have f:∀i,¬uW y i:=λi h=>l (z▸h.1)
 have qH:∀(w:Wd)(m A:Prop),(m->A)->hE x w m->hE y w A:=λw m A T h=>by grind[hE,a0g,uD,Hp.c,Cl.un,dH,R2,R3,R4,R8]
 have g:∀i k,¬cN x i k->¬cN y i k:=λi k h t=>h ⟨z▸t.1,λP=>by have:=t.2 (z▸P);rw[u,W]at this;exact this⟩
 refine⟨⟨λi d=>?_,λi d B k o u=>?_⟩,⟨by rw[N,F];exact L.1,by rw[N,G];exact L.2⟩,⟨λi d=>by grind[uD,Hp.c,Cl.un,dH,R2,R3,R4,R8],λi d=>⟨λh=>f i h.1,λk o=>⟨λh=>(f i h).elim,λ_=>?_⟩⟩⟩,λi d h=>?_⟩;rw[E]at d;have⟨j,J,I,H,s,r,e⟩:=a0g (v i);obtain⟨a,b,c⟩|⟨a,b⟩|⟨a,b⟩:=M.1 i d
 ·refine .inl ⟨j▸a,?_,r▸c⟩;have C:(y.c i).J=(x.c i).J:=by grind[Hp.c,uD,Cl.un,dH,R2,R3,R4,R8]
  exact⟨J▸b.1,I▸b.2.1,H▸b.2.2.1,s▸b.2.2.2.1,C▸b.2.2.2.2.1,e▸b.2.2.2.2.2⟩
 have:=b.2.1;obtain h|h:=D <;> omega
 refine .inr (.inr ⟨j▸a,J▸b.1,I▸b.2.1,H▸b.2.2.1,by rw[s,U];exact b.2.2.2.1,?_,r▸b.2.2.2.2.2.1,e▸b.2.2.2.2.2.2⟩);obtain h|h:=n i d
 ·rw[h];exact b.2.2.2.2.1
 exact h.2;rw[E]at d;have⟨j,_,_,_,s,r,_⟩:=a0g (v i);have⟨R,_,_,_,O,Q,_⟩:=a0g (v k);rw[j,s,r,R,O,Q]at u;exact M.2 i d (j▸B) k o u;rw[E]at d;have e:=(a0g (v i)).2.2.2.2.2.2;rw[e]at o;have S:(y.c i).p k=(x.c i).p k:=by simp only[Cl.p,e]
 rw[S];have:=(V.2 i d).2 k o;exact⟨qH _ _ _ (g i k) (this.2 (K i)).1,qH _ _ _ (g i k) (this.2 (K i)).2⟩;rw[z]at h;obtain t|t:=D <;> omega
theorem b4s:∀(n:Nat)(L:List Nat),L.Nodup->(∀i,i∈L->i<n)->L.length<=n
 | 0,L,_,h=>by
  cases L with
  | nil=>simp
  | cons a L=>have:=h a (mH ..);omega
 | n+1,L,hn,h=>by
  by_cases hm:n∈L;have h1:=b4s n (L.erase n) (hn.erase n) (λi hi=>by
   have h2:=h i (List.mem_of_mem_erase hi);have h3:i≠n:=λe=>by rw[e]at hi;exact(List.Nodup.not_mem_erase hn) hi
   omega)
  rw[qO hm]at h1;have h5:0<L.length:=List.length_pos_of_mem hm;omega;have h1:=b4s n L hn (λi hi=>by
   have h2:=h i hi;have h3:i≠n:=λe=>hm (e▸hi)
   omega)
  omega
theorem a5p(h:eN x i=true):uD x/\(x.c i).st=1/\(x.c i).J=0:=by grind[eN,uD,Hp.c,mkB,whB]
theorem gray_in(f:R5 x)(i:Nat)(e:i<x.A.length):(i:Int)∈x.D↔(x.c i).J=1:=by
 have:=f.2.1 i e;constructor;intro h;obtain b|d:=Int.decEq (x.c i).J 1
 ·have a:=this.2.1 b;unfold cnt at a;exact absurd h (nO.1 a)
 exact d;intro h;have a:=this.1 h;unfold cnt at a;exact nP.1 (by omega)
theorem Snd.shade{x:Hp}(h:Snd x)(i:Nat)(J:i<x.A.length):Snd (uK x i):=by
 by_cases u:eN x i=true;rotate_left;have:uK x i=x:=by unfold uK;rw[if_neg u]
 rw[this];exact h;have⟨L,W,aa⟩:=a5p u;have⟨P,s2,s3,s4,B,G,K,N,s9,V,X,U⟩:=cC x i;have hc:∀q,(uK x i).c q=if q=i then yD (x.c i) else x.c q:=λq=>by rw[a8a x i J q];simp[u]
 have v:(uK x i).D=x.D++[(i:Int)]:=by unfold uK;rw[if_pos u]
 have ng:¬(i:Int)∈x.D:=λe=>by have:=(gray_in h.r5 i J).1 e;omega
 have I:uD (uK x i):=by unfold uD;rw[G];exact L
 have f:∀q,((uK x i).c q).J=if q=i then 1 else (x.c q).J:=λq=>by
  rw[hc q];by_cases e:q=i;rw[if_pos e,if_pos e];rfl;rw[if_neg e,if_neg e]
 have t:=a6p x i J;have A:dH (uK x i).A=dH x.A:=by
  have:(uK x i).A=x.A.set i (yD (x.c i)):=by unfold uK;rw[if_pos u]
  rw[this];refine a3m _ _ _ J ?_;rw[Hp.c_eq x i J];rfl
 have⟨q2,q3,q4,q8⟩:=b2v L G K N s3 s2 P s4 B t (λq hq=>by
  rw[f q];by_cases e:q=i;right;rw[if_pos e,(a0g (t q)).1,e];refine⟨W,?_,?_⟩<;>omega
  left;rw[if_neg e]) A h.r2 h.r3 h.r4
 refine⟨?_,q2,q3,q4,?_,?_,?_,q8⟩;have r:=h.r1;have S:((x.D++[(i:Int)]).map Int.toNat).Nodup:=by
  unfold List.Nodup;rw[nt];refine qP (R:=(·≠·)) (λO u T e=>T ?_) ?_;have Z:∀g,g∈x.D++[(i:Int)]->0<=g:=λg v=>by
   obtain d|d:=kx.1 v;exact(h.r5.2.2 g d).1;rw[mT]at d;omega
  have:=Z _ O;have:=Z _ u;omega;rw[nw];exact⟨b4f h.r5,by simp,λa O b u e=>by rw[mT]at u;rw[e,u]at O;exact ng O⟩
 have C:=b4s x.A.length _ S (λj D=>by
  obtain⟨g,z,rfl⟩:=mY.1 D;obtain d|d:=kx.1 z;have:=h.r5.2.2 g d;omega;rw[mT]at d;omega)
 rw[mZ]at C;exact⟨P▸r.M,s4▸r.B,by rw[B,P];exact r.A,by rw[v,B];exact C,s3▸r.born,X▸r.Q,U▸r.S,s9▸r.per,V▸r.V,G▸r.E,by rw[K,B];exact r.I,N▸r.sub⟩;refine⟨λn=>(n I).elim,λj D=>?_,λg z=>?_⟩
 ·rw[B]at D;have r:=h.r5.2.1 j D;have H:cnt (uK x i).D j=cnt x.D j+if j=i then 1 else 0:=by
   unfold cnt;rw[v,List.count_append];by_cases e:j=i;subst e;simp;rw[if_neg e,List.count_singleton];have:¬((i:Int)=(j:Int)):=by omega
   simp[this]
  unfold a0n;rw[H,f j];by_cases e:j=i;subst e;rw[if_pos rfl,if_pos rfl];have:=r.2.1 (by omega);exact⟨λ_=>by omega,λd=>by omega,λd=>by omega⟩;rw[if_neg e,if_neg e];exact⟨λd=>by have:=r.1 d;omega,λd=>by have:=r.2.1 d;omega,λd=>.inl I⟩
 rw[v]at z;rw[B];obtain d|d:=kx.1 z
 ·exact h.r5.2.2 g d
 rw[mT]at d;omega;have r:=h.r6;unfold R6;rw[G,K,N,B];refine⟨λF=>?_,λF=>⟨(r.2.1 F).1,λm=>?_,λ_=>?_⟩,λF=>?_,r.2.2.2⟩
 ·exact r.1 F
 rw[v]at m;simp at m;have M:=λq=>(a0g (t q)).2.2.2.2.2.2
 rw[M];obtain m|m:=mF x.D.length;have:=(r.2.1 F).2.1 m;omega;have eg:(uK x i).g0=x.g0:=by
  unfold Hp.g0;rw[v];cases E:x.D with
  | nil=>rw[E]at m;simp at m
  | cons a l=>rfl
 rw[eg];exact(r.2.1 F).2.2 (by omega);obtain d|d:=L <;> omega
 intro _ j D;rw[B]at D;have r:=h.r7 L j D;have M:=(a0g (t j)).2.2.2.2.2.2;have wh:∀y,dJ (uK x i) y->dJ x y:=λy Y=>by
  refine⟨Y.1,?_⟩;have:=Y.2;rw[f]at this;by_cases e:y.a.toNat=i;rw[if_pos e]at this;omega;rw[if_neg e]at this;exact this
 refine⟨λo=>r.1 ⟨?_,?_,?_⟩,λk s=>?_⟩;unfold cK;rw[<-((a0g (t j)).2.2.2.1)];exact o.1;have:=o.2.1;rw[f]at this;by_cases e:j=i
 ·rw[if_pos e]at this;omega
 rw[if_neg e]at this;exact this;rw[<-G,<-K];exact o.2.2;have e8:((uK x i).c j).p k=(x.c j).p k:=by simp only[Cl.p,M]
 rw[e8];have Q:k<eH x j:=by
  unfold eH at s ⊢;rw[f j,M,G,N]at s;by_cases e:j=i;subst e;rw[if_pos rfl,if_neg (by omega)]at s;rw[if_neg (by omega)];split at s
  ·rename_i o;rw[v]at o;obtain m|m:=mF x.D.length
   ·have:=(h.r6.2.1 o.1).2.1 m;omega
   have:x.D.getD 0 0=(j:Int):=by
    cases E:x.D with
    | nil=>rw[E]at m;simp at m
    | cons a l=>rw[E]at o;simpa using o.2.2
   rw[if_pos ⟨o.1,by omega,this⟩];exact s
  omega;rw[if_neg e]at s;by_cases h2:(x.c j).J=2
  ·rw[if_pos h2]at s ⊢;exact s
  rw[if_neg h2]at s ⊢;split at s
  ·rename_i o;rw[v]at o;obtain m|m:=mF x.D.length
   ·have:=(h.r6.2.1 o.1).2.1 m;omega
   have:x.D.getD 0 0=(j:Int):=by
    cases E:x.D with
    | nil=>rw[E]at m;simp at m
    | cons a l=>rw[E]at o;simpa using o.2.2
   rw[if_pos ⟨o.1,by omega,this⟩];exact s
  omega
 have:=r.2 k Q;exact⟨λw=>this.1 (wh _ w),λw=>this.2 (wh _ w)⟩
def dC(x:Hp)(p h:Int):Hp:={ x with E:=p,I:=h,sub:=0 }
def kU(c:Cl):Bool:=c.U == 1 || c.U == 2
theorem b0c(c:Cl):kU c=true↔cK c:=by simp[kU,cK]
def uX(x:Hp)(y:Wd):Hp:=if (y.k == 2)=true then uK x y.a.toNat else x
def dW(x:Hp):Hp:=if x.I=x.A.length then dC x 2 0 else
 let z:=if kU (x.c x.I.toNat)=true then uK x x.I.toNat else x
 { z with I:=x.I+1 }
def zC(x:Hp):Hp:=x.B.foldl uX x
def a2a(c:Cl):Cl:={ c with J:=2 }
def dX(x:Hp):Hp:=
 match x.D with
 | g::G=>
  if x.sub<(x.c g.toNat).F.length then
   let p:=(x.c g.toNat).p x.sub.toNat
   { uX (uX x p.key) p.val with sub:=x.sub+1 }
  else { x with A:=x.A.set g.toNat (a2a (x.c g.toNat)),D:=G,sub:=0 }
 | []=>if (zC x).D=[] then dC (zC x) 3 0 else zC x
def eC(x:Hp)(y:Wd):Prop:=y.k=2->y.a.toNat<x.A.length/\(x.c y.a.toNat).st=1
theorem Snd.shdW(h:Snd x)(y:Wd)(a:eC x y):Snd (uX x y):=by grind[eC,uX,Snd.shade]
theorem a0b(x:Hp)(y:Wd):(uX x y).B=x.B/\(uX x y).A.length=x.A.length/\(uX x y).E=x.E/\(uX x y).I=x.I/\(uX x y).sub=x.sub:=by grind[uX,uQ.A,cC]
theorem a4x(x:Hp)(y:Wd)(a:eC x y)(q:Nat):((uX x y).c q).un=(x.c q).un:=by grind[eC,uX,Hp.c,Cl.un,a6p]
theorem eC.keep{y:Wd}(h:eC x y)(d:z.A.length=x.A.length)(b:∀q,(z.c q).un=(x.c q).un):eC z y:=λa=>⟨d▸(h a).1,(a0g (b _)).1▸(h a).2⟩
theorem a1y(x:Hp)(i:Nat)(a:i<x.A.length)(b:uD x)(d:(x.c i).st=1):((uK x i).c i).J≠0:=by grind[uQ.A,uD,Hp.c,uK,a8a,eN,yD,mkB,whB]
theorem c5b(x:Hp)(i:Nat)(a:i<x.A.length)(q:Nat)(h:(x.c q).J≠0):((uK x i).c q).J≠0:=by grind[uQ.A,Hp.c,uK,a8a,yD]
theorem b1t(x:Hp)(y:Wd)(b:eC x y)(a:uD x):¬dJ (uX x y) y:=by grind[eC,uD,dJ,uX,a1y]
theorem b2z(x:Hp)(y:Wd)(a:eC x y)(q:Nat)(h:(x.c q).J≠0):((uX x y).c q).J≠0:=by grind[eC,Hp.c,uX,c5b]
theorem Snd.good_pair(h:Snd x)(b:uD x)(i k:Nat)(l:i<x.A.length)(m:k<(x.c i).F.length):eC x ((x.c i).p k).key/\eC x ((x.c i).p k).val:=by
 have g:¬uW x i:=λd=>by have:=d.1;obtain a|a:=b <;> omega
 have r:=((h.r4.2 i l).2 k m).2 g;have e:cN x i k:=⟨by obtain a|a:=b <;> omega,λo=>by obtain a|a:=b <;> omega⟩;have f:∀y,hE x y (¬cN x i k)->eC x y:=λy n j=>by grind[hE,cN,eC,uJ,uQ.A,uD,Hp.c,Cl.p]
 exact⟨f _ r.1,f _ r.2⟩
theorem Snd.good_reg(h:Snd x)(i:Nat)(b:i<x.B.length):eC x x.B[i]:=λa=>by
 have r:=h.r4.1 i b;obtain⟨_,h2⟩|⟨h1,_⟩:=r.2 a;exact h2.elim;refine⟨?_,h1⟩;obtain f|f|f:=r.1 <;> omega
theorem Snd.I(h:Snd x)(y:uD x)(p j l:Int)(z:p=1\/p=2)(E:0<=j/\j<=x.A.length)(C:0<=l/\l<=200)(D:R6 { x with E:=p,I:=j,sub:=l })(B:R7 { x with E:=p,I:=j,sub:=l }):Snd { x with E:=p,I:=j,sub:=l }:=by
 have r:=h.r1;have np:p≠3/\p≠4/\p≠5/\p≠6:=by omega
 have s:x.E≠3/\x.E≠4/\x.E≠5/\x.E≠6:=by obtain t|t:=y <;> omega
 have qH:∀(w:Wd)(m q:Prop),(m->q)->hE x w m->hE { x with E:=p,I:=j,sub:=l } w q:=λw m q u v=>by
  refine⟨v.1,λo=>?_⟩;obtain⟨a,b⟩|⟨a,_⟩:=v.2 o;exact .inl ⟨a,u b⟩;exact .inr ⟨a,λd=>np.1 d.1⟩
 have f:∀i k,cN x i k:=λi k=>⟨s.2.1,λe=>(s.2.2.1 e).elim⟩
 have A:∀i,¬uW x i:=λi d=>s.1 d.1
 refine⟨⟨r.M,r.B,r.A,r.D,r.born,r.Q,r.S,r.per,r.V,by show 0<=p/\p<=6;omega,E,C⟩,⟨λi g=>?_,h.r2.2⟩,h.r3,⟨λi g=>qH _ _ _ id (h.r4.1 i g),λi g=>⟨λd=>np.1 d.1.1,λk o=>⟨λd=>(np.1 d.1).elim,λ_=>by have:=((h.r4.2 i g).2 k o).2 (A i);exact⟨qH _ _ _ (λe=>(e (f i k)).elim) this.1,qH _ _ _ (λe=>(e (f i k)).elim) this.2⟩⟩⟩⟩,⟨λn=>(n z).elim,λi g=>by have c:=h.r5.2.1 i g;exact⟨c.1,c.2.1,λ_=>.inl z⟩,h.r5.2.2⟩,D,B,λi g e=>np.2.2.2 e.1⟩;obtain a|⟨_,b⟩|a:=h.r2.1 i g
 ·exact .inl a
 have:=b.2.1;obtain t|t:=y <;> omega
 exact .inr (.inr a)
theorem Snd.u1(h:Snd x)(u:x.E=1):Snd (dW x):=by
 unfold Go.Proofs.YtolmnenlnpbcfaaGreatDoor.dW;have m:uD x:=.inl u;have t:x.sub=0:=h.r6.2.2.2 (.inl u);split;rename_i G;refine h.I m 2 0 0 (.inr rfl) ⟨by omega,by omega⟩ ⟨by omega,by omega⟩ ?_ ?_
 ·refine⟨λe=>?_,λ_=>⟨rfl,λ_=>rfl,λ_=>?_⟩,λe=>?_,λe=>?_⟩
  ·grind[dW]
  show(0:Int)<=_;omega;grind[dW];grind[dW]
 intro _ i o;have r:=h.r7 m i o;refine⟨λe=>r.1 ⟨e.1,e.2.1,.inr ?_⟩,λk s=>r.2 k ?_⟩
 ·have:i<x.A.length:=o;omega
 grind[eH,Hp.c,Snd.I,dW];rename_i v;have F:=h.r1.I;have⟨i,o⟩:∃i:Nat,x.I=(i:Int):=⟨x.I.toNat,by omega⟩;have g:i<x.A.length:=by omega
 have D:x.I.toNat=i:=by omega
 rw[D];have⟨z,p⟩:=obE ((if kU (x.c i)=true then uK x i else x));have n:Snd z:=by rw[p];split;exact h.shade i g;exact h
 have f:z.E=x.E/\z.I=x.I/\z.sub=x.sub/\z.A.length=x.A.length:=by grind[Snd.I,uQ.A,cC,dW]
 have y:cK (z.c i)->(z.c i).J≠0:=by
  rw[p];split;rename_i e;have C:(x.c i).st=1:=by
   have l:=(b0c _).1 e;obtain⟨_,b,_⟩|⟨_,b⟩|⟨a,_⟩:=h.r2.1 i g;have:=b.2.2.1;obtain q|q:=l <;> omega
   have:=b.1.2.2.1;obtain q|q:=l <;> omega
   exact a
  exact λ_=>a1y x i g m C
  grind[b0c,dW]
 suffices hgoal:Snd { z with I:=x.I+1 } by rw[p]at hgoal;exact hgoal
 have d:uD z:=by unfold uD;rw[f.1];exact m
 have B:({ z with I:=x.I+1 }:Hp)={ z with E:=z.E,I:=x.I+1,sub:=z.sub }:=rfl;rw[B];refine n.I d z.E (x.I+1) z.sub d ⟨by omega,by rw[f.2.2.2];omega⟩ (by refine⟨?_,?_⟩<;>(have:=n.r1.sub;omega)) ?_ ?_;refine⟨λe=>?_,λe=>?_,λe=>?_,λ_=>?_⟩
 ·grind[dW]
 grind[dW];grind[dW];grind[dW];intro _ j E;have r:=n.r7 d j E;refine⟨λe=>?_,λk s=>r.2 k s⟩;have A:z.E=2\/(j:Int)<x.I+1:=e.2.2;by_cases w:j=i
 ·subst w;exact y e.1 e.2.1
 refine r.1 ⟨e.1,e.2.1,?_⟩;obtain q|q:=A
 ·exact .inl q
 right;rw[f.2.1];omega
structure Shd(x z:Hp):Prop where
 s:Snd z
 B:z.B=x.B
 len:z.A.length=x.A.length
 E:z.E=x.E
 I:z.I=x.I
 sub:z.sub=x.sub
 un:∀q,(z.c q).un=(x.c q).un
 mono:∀q,(x.c q).J≠0->(z.c q).J≠0
 D:∃L,z.D=x.D++L
theorem Shd.refl(h:Snd x):Shd x x:=⟨h,rfl,rfl,rfl,rfl,rfl,λ_=>rfl,λ_ h=>h,[],by simp⟩
theorem b3a(x:Hp)(y:Wd):∃L,(uX x y).D=x.D++L:=by
 unfold uX uK;split;split
 ·exact⟨_,rfl⟩
 exact⟨[],by simp⟩;exact⟨[],by simp⟩
theorem Shd.step(h:Shd x z)(y:Wd)(l:eC x y):Shd x (uX z y)/\(uD x->¬dJ (uX z y) y):=by
 have a:eC z y:=l.keep h.len h.un;have⟨d,g,b,i,c⟩:=a0b z y;have⟨L,f⟩:=h.D;have⟨M,j⟩:=b3a z y;refine⟨⟨h.s.shdW y a,d.trans h.B,g.trans h.len,b.trans h.E,i.trans h.I,c.trans h.sub,λq=>(a4x z y a q).trans (h.un q),λq k=>b2z z y a q (h.mono q k),L++M,by rw[j,f,mq]⟩,λe=>b1t z y a (by unfold uD;rw[h.E];exact e)⟩
theorem b4t{y u:Wd}(a:eC z y)(h:¬dJ z u):¬dJ (uX z y) u:=by grind[eC,dJ,uX,Hp.c,b2z]
theorem Shd.fold{x:Hp}(hm:uD x):∀(ys:List Wd)(z:Hp),(∀y,y∈ys->eC x y)->Shd x z->Shd x (ys.foldl uX z)/\(∀y,y∈ys->¬dJ (ys.foldl uX z) y)/\∀u,¬dJ z u->¬dJ (ys.foldl uX z) u
 | [],z,_,h=>⟨h,λy hy=>(by cases hy),λ_ h=>h⟩
 | y::ys,z,hg,h=>by
  have st:=h.step y (hg y (mH ..));have⟨q1,q2,q3⟩:=Shd.fold hm ys (uX z y) (λu hu=>hg u (ma _ hu)) st.1;have hz:eC z y:=(hg y (mH ..)).keep h.len h.un;refine⟨q1,λu hu=>?_,λu hu=>q3 u (b4t hz hu)⟩;obtain e|e:=nx.1 hu;rw[e];exact q3 y (st.2 hm);exact q2 u e
theorem c5c(h:∀q,(z.c q).un=(x.c q).un)(q:Nat):(z.c q).F=(x.c q).F:=(a0g (h q)).2.2.2.2.2.2
theorem un_p(h:∀q,(z.c q).un=(x.c q).un)(q k:Nat):(z.c q).p k=(x.c q).p k:=by simp only[Cl.p,c5c h q]
theorem Snd.u2a(h:Snd x)(X:x.E=2)(g:Int)(G:List Int)(F:x.D=g::G)(Y:x.sub<(x.c g.toNat).F.length):Snd { uX (uX x ((x.c g.toNat).p x.sub.toNat).key) ((x.c g.toNat).p x.sub.toNat).val with sub:=x.sub+1 }:=by
 have t:uD x:=.inr X;have K:=h.r5.2.2 g (F▸mH ..);have P:=h.r1.sub;have A:g.toNat<x.A.length:=by omega
 have I:x.sub.toNat<(x.c g.toNat).F.length:=by omega
 have⟨E,u⟩:=h.good_pair t g.toNat x.sub.toNat A I;have⟨p,m⟩:=obE ((x.c g.toNat).p x.sub.toNat);rw[<-m]at E u ⊢;have o:=(Shd.refl h).step p.key E;have a:=o.1.step p.val u;have D:¬dJ (uX (uX x p.key) p.val) p.key:=b4t (u.keep o.1.len o.1.un) (o.2 t);have w:=a.2 t;have⟨z,M⟩:=obE (uX (uX x p.key) p.val);rw[<-M]at a D w ⊢;have⟨a,_⟩:=a;have⟨L,J⟩:=a.D;have i:z.D=g::(G++L):=by rw[J,F];rfl
 have l:uD z:=by unfold uD;rw[a.E];exact t
 have v:=h.ok.p200 g.toNat A;have R:({ z with sub:=x.sub+1 }:Hp)={ z with E:=z.E,I:=z.I,sub:=x.sub+1 }:=rfl;rw[R];refine a.s.I l z.E z.I (x.sub+1) l a.s.r1.I ⟨by omega,by omega⟩ ?_ ?_;refine⟨λe=>?_,λe=>⟨(a.s.r6.2.1 e).1,λS=>?_,λ_=>?_⟩,λe=>?_,λe=>?_⟩
 ·have f:z.E=0\/z.E=4:=e;rw[a.E]at f;omega
 have f:z.D.length=0:=S;rw[i]at f;simp at f;have:({ z with E:=z.E,I:=z.I,sub:=x.sub+1 }:Hp).g0=g.toNat:=by unfold Hp.g0;show(z.D.getD 0 0).toNat=_;rw[i];rfl
 rw[this];show x.sub+1<=((z.c g.toNat).F.length:Int);rw[c5c a.un];omega;have f:z.E=5:=e;rw[a.E]at f;omega;have f:z.E=1\/z.E=3\/z.E=6:=e;rw[a.E]at f;omega;intro _ j U;have r:=a.s.r7 l j U;refine⟨λe=>r.1 e,λk n=>?_⟩;have d:∀y,dJ ({ z with E:=z.E,I:=z.I,sub:=x.sub+1 }:Hp) y->dJ z y:=λy H=>H
 have key:k<eH z j\/(j=g.toNat/\k=x.sub.toNat):=by
  unfold eH at n ⊢;have b:k<if (z.c j).J=2 then (z.c j).F.length else if z.E=2/\z.D.length≠0/\z.D.getD 0 0=(j:Int) then (x.sub+1).toNat else 0:=n;by_cases C:(z.c j).J=2
  rw[if_pos C]at b ⊢;exact .inl b;rw[if_neg C]at b ⊢;split at b
  ·rename_i B;rw[if_pos B];have O:j=g.toNat:=by have:=B.2.2;rw[i]at this;simp at this;omega
   rw[a.sub];by_cases Q:k=x.sub.toNat;exact .inr ⟨O,Q⟩;left;omega
  omega
 obtain q|⟨V,N⟩:=key;exact⟨λe=>(r.2 k q).1 (d _ e),λe=>(r.2 k q).2 (d _ e)⟩;subst V N;have T:(({ z with E:=z.E,I:=z.I,sub:=x.sub+1 }:Hp).c g.toNat).p x.sub.toNat=p:=by
  show(z.c g.toNat).p x.sub.toNat=p;rw[un_p a.un,<-m]
 rw[T];exact⟨λe=>D (d _ e),λe=>w (d _ e)⟩
theorem Snd.u2b(h:Snd x)(N:x.E=2)(g:Int)(G:List Int)(D:x.D=g::G)(hs:¬x.sub<(x.c g.toNat).F.length):Snd { x with A:=x.A.set g.toNat (a2a (x.c g.toNat)),D:=G,sub:=0 }:=by
 have Q:uD x:=.inr N;have J:g∈x.D:=D▸mH ..;have aa:=h.r5.2.2 g J;have T:g.toNat<x.A.length:=by omega
 have eg:((g.toNat:Nat):Int)=g:=by omega
 have W:=b1j h.r2 h.r5 g J;have Z:x.sub=((x.c g.toNat).F.length:Int):=by
  have:=(h.r6.2.1 N).2.2 (by rw[D];simp);have e:x.g0=g.toNat:=by unfold Hp.g0;rw[D];rfl
  rw[e]at this;omega
 have⟨y,v⟩:=obE ({ x with A:=x.A.set g.toNat (a2a (x.c g.toNat)),D:=G,sub:=0 }:Hp);have Y:∀q,y.c q=if q=g.toNat then a2a (x.c g.toNat) else x.c q:=λq=>by
  have:=Hp.c_set x g.toNat (a2a (x.c g.toNat)) T q;rw[v];exact this
 have t:y.A.length=x.A.length:=by rw[v];simp
 have C:y.E=x.E:=by rw[v]
 have F:y.I=x.I:=by rw[v]
 have H:y.D=G:=by rw[v]
 have A:y.sub=0:=by rw[v]
 have f:y.M=x.M/\y.K=x.K/\y.born=x.born/\y.B=x.B/\y.per=x.per/\y.V=x.V/\y.Q=x.Q/\y.S=x.S:=v▸⟨rfl,rfl,rfl,rfl,rfl,rfl,rfl,rfl⟩;have s:∀q,(y.c q).un=(x.c q).un:=λq=>by
  rw[Y q];by_cases e:q=g.toNat;rw[if_pos e,e];rfl;rw[if_neg e]
 have p:∀q,(y.c q).J=if q=g.toNat then 2 else (x.c q).J:=λq=>by
  rw[Y q];by_cases e:q=g.toNat;rw[if_pos e,if_pos e];rfl;rw[if_neg e,if_neg e]
 have B:dH y.A=dH x.A:=by
  have:y.A=x.A.set g.toNat (a2a (x.c g.toNat)):=by rw[v]
  rw[this];exact a3m _ _ _ T (by rw[Hp.c_eq x _ T];rfl)
 rw[<-v];have⟨z,l⟩:=obE ({ x with sub:=0 }:Hp);have O:∀q,z.c q=x.c q:=λq=>by rw[l];rfl
 have h2:R2 z:=l▸h.r2;have h3:R3 z:=l▸h.r3;have h4:R4 z:=by
  have K:∀i k,¬cN x i k->¬cN z i k:=λi k e e'=>e ⟨by have:=e'.1;rw[l]at this;exact this,λh5=>by omega⟩
  have qH:∀(w:Wd)(m S:Prop),(m->S)->hE x w m->hE z w S:=λw m S X t=>by
   refine⟨l▸t.1,λo=>?_⟩;rw[O];obtain⟨a,b⟩|⟨a,_⟩:=t.2 o;exact .inl ⟨a,X b⟩;exact .inr ⟨a,λd=>by have:=d.1;rw[l]at this;have:x.E=3:=this;omega⟩
  have nd:∀i,¬uW z i:=λi d=>by have:=d.1;rw[l]at this;have:x.E=3:=this;omega
  refine⟨λi E=>?_,λi E=>⟨λd=>nd i d.1,λk o=>⟨λd=>(nd i d).elim,λ_=>?_⟩⟩⟩;have e:z.B=x.B:=by rw[l]
  have V:i<x.B.length:=e▸E;have e2:z.B[i]=x.B[i]:=by simp[e]
  rw[e2];exact qH _ _ _ id (h.r4.1 i V);rw[O]at o ⊢;have:=((h.r4.2 i (by
   have e:z.A=x.A:=by rw[l]
   rw[<-e];exact E)).2 k o).2 (λd=>by have:=d.1;omega)
  exact⟨qH _ _ _ (K i k) this.1,qH _ _ _ (K i k) this.2⟩
 have U:uD z:=l▸Q;have⟨q2,q3,q4,q8⟩:=b2v (x:=z) (y:=y) U (by rw[C,l]) (by rw[F,l]) (by rw[A,l]) (by rw[f.2.2.1,l]) (by rw[f.2.1,l]) (by rw[f.1,l]) (by rw[f.2.2.2.1,l]) (by rw[t,l]) (λq=>by rw[O];exact s q) (λq hq=>by
  rw[O,p q];by_cases e:q=g.toNat;right;rw[if_pos e,(a0g (s q)).1,e];refine⟨W.2,?_,?_⟩<;>omega
  left;rw[if_neg e]) (by rw[B,l]) h2 h3 h4
 have I:uD y:=by unfold uD;rw[C];exact Q
 have cg:∀j:Nat,cnt x.D j=cnt G j+if j=g.toNat then 1 else 0:=λj=>by
  unfold cnt;rw[D,List.count_cons];by_cases e:j=g.toNat;subst e;rw[if_pos rfl];simp[eg];rw[if_neg e];have:¬g=(j:Int):=by omega
  simp[this]
 refine⟨?_,q2,q3,q4,⟨λn=>(n I).elim,λj M=>?_,λk o=>?_⟩,?_,?_,q8⟩;have r:=h.r1;have r4:=r.D;rw[D]at r4;simp at r4;exact⟨f.1▸r.M,f.2.2.2.1▸r.B,by rw[t,f.1];exact r.A,by rw[H,t];omega,f.2.2.1▸r.born,f.2.2.2.2.2.2.1▸r.Q,f.2.2.2.2.2.2.2▸r.S,f.2.2.2.2.1▸r.per,f.2.2.2.2.2.1▸r.V,C▸r.E,by rw[F,t];exact r.I,by rw[A];omega⟩;rw[t]at M;have r:=h.r5.2.1 j M;have c:=cg j;unfold a0n;rw[p j,H];by_cases e:j=g.toNat
 ·subst e;rw[if_pos rfl]at c ⊢;have:=r.1 W.1;exact⟨λP=>by omega,λ_=>by omega,λ_=>.inl I⟩
 rw[if_neg e]at c ⊢;exact⟨λP=>by have:=r.1 P;omega,λP=>by have:=r.2.1 P;omega,λ_=>.inl I⟩;rw[H]at o;rw[t];exact h.r5.2.2 k (D▸ma _ o);unfold R6;rw[C,F,A];refine⟨λe=>by omega,λ_=>⟨(h.r6.2.1 N).1,λ_=>rfl,λ_=>by omega⟩,λe=>by omega,λe=>by omega⟩;intro _ j M;rw[t]at M;have r:=h.r7 Q j M;have wh:∀u,dJ y u->dJ x u:=λu hw=>by
  refine⟨hw.1,?_⟩;have:=hw.2;rw[p]at this;by_cases e:u.a.toNat=g.toNat;rw[if_pos e]at this;omega;rw[if_neg e]at this;exact this
 refine⟨λe=>r.1 ⟨?_,?_,.inl N⟩,λk o=>?_⟩;unfold cK;rw[<-(a0g (s j)).2.2.2.1];exact e.1;have:=e.2.1;rw[p]at this;by_cases L:j=g.toNat
 ·rw[if_pos L]at this;omega
 rw[if_neg L]at this;exact this;rw[un_p s];have R:k<eH x j:=by
  unfold eH at o ⊢;rw[p j,c5c s,A]at o;by_cases L:j=g.toNat;subst L;rw[if_pos rfl,if_pos rfl]at o;rw[if_neg (by have:=W.1;omega),if_pos ⟨N,by rw[D];simp,by rw[D];simp[eg]⟩];omega;rw[if_neg L]at o;by_cases c2:(x.c j).J=2
  ·rw[if_pos c2]at o ⊢;exact o
  rw[if_neg c2]at o;split at o
  ·simp at o
  omega
 have:=r.2 k R;exact⟨λw=>this.1 (wh _ w),λw=>this.2 (wh _ w)⟩
theorem Snd.look(h:Snd x)(j:x.E=2):Shd x (zC x)/\∀i (a:i<x.B.length),¬dJ (zC x) x.B[i]:=by
 have c:uD x:=.inr j;have d:∀y,y∈x.B->eC x y:=λy b=>by
  have⟨i,a,e⟩:=mJ b;rw[<-e];exact h.good_reg i a
 have⟨f,g,_⟩:=Shd.fold c x.B x d (Shd.refl h);exact⟨f,λi a=>g _ (ki a)⟩
theorem Snd.ended(h:Snd x)(G:x.E=2)(F:x.D=[])(Q:∀i (f:i<x.B.length),¬dJ x x.B[i]):Snd (dC x 3 0):=by
 have t:uD x:=.inr G;have⟨y,j⟩:=obE (dC x 3 0);have p:∀q,y.c q=x.c q:=λq=>by rw[j];rfl
 have n:y.A=x.A:=by rw[j];rfl
 have K:y.E=3:=by rw[j];rfl
 have L:y.I=0:=by rw[j];rfl
 have I:y.sub=0:=by rw[j];rfl
 have A:y.B=x.B:=by rw[j];rfl
 have z:y.D=[]:=j▸F;have y1:y.M=x.M/\y.K=x.K/\y.born=x.born/\y.per=x.per/\y.V=x.V/\y.Q=x.Q/\y.S=x.S:=j▸⟨rfl,rfl,rfl,rfl,rfl,rfl,rfl⟩;rw[<-j];have v:∀i,i<x.A.length->(x.c i).J≠1:=λi f e=>by
  have:=(h.r5.2.1 i f).1 e;rw[F]at this;simp[cnt]at this
 have E:∀i,uW y i↔(x.c i).st=1/\(x.c i).J=0:=λi=>by grind[uW,Hp.c,dJ,dC]
 have qH:∀u,eC x u->uJ u x.A.length->¬dJ x u->∀m,hE y u m:=λu O R H m=>by grind[eC,uJ,uQ.A,dJ,hE,dC]
 have r:=h.r1;refine⟨⟨y1.1▸r.M,A▸r.B,by rw[n,y1.1];exact r.A,by rw[z];simp,y1.2.2.1▸r.born,y1.2.2.2.2.2.1▸r.Q,y1.2.2.2.2.2.2▸r.S,y1.2.2.2.1▸r.per,y1.2.2.2.2.1▸r.V,by rw[K];omega,by rw[L];omega,by rw[I];omega⟩,⟨λi f=>?_,λi f=>by rw[n]at f;rw[p];intro B k l;rw[p];exact h.r2.2 i f B k l⟩,⟨by rw[y1.2.1,n];exact h.r3.1,by rw[y1.2.1,y1.1];exact h.r3.2⟩,⟨λi f=>?_,λi f=>⟨λe=>?_,λk l=>⟨λd=>by rw[n]at f;rw[p]at l ⊢;have:=((h.r4.2 i f).2 k l).2 (λd=>by have:=d.1;omega);rw[n];exact⟨this.1.1,this.2.1⟩,λd=>?_⟩⟩⟩,⟨λ_=>by rw[z];rfl,λi f=>by grind[a0n,cnt,dJ,dC],λg s=>by rw[z]at s;cases s⟩,by grind[R6,dJ,dC],λe=>?_,λi f e=>by have:=e.1;omega⟩;rw[n]at f;unfold cZ;rw[p];obtain a|⟨_,b⟩|⟨a,b⟩:=h.r2.1 i f
 ·exact .inl a
 have:=b.2.1;omega;exact .inr (.inr ⟨a,b.1,b.2.1,b.2.2.1,y1.2.2.1▸b.2.2.2.1,b.2.2.2.2⟩);have o:i<x.B.length:=A▸f;have M:y.B[i]=x.B[i]:=by simp[A]
 rw[M];exact qH _ (h.good_reg i o) (h.r4.1 i o).1 (Q i o) _;rw[n]at f;have d:=(E i).1 e.1;have N:cK (x.c i):=by have:=e.2;rw[p]at this;exact this
 exact(h.r7 t i f).1 ⟨N,d.2,.inl G⟩;rw[n]at f;rw[p]at l ⊢;have P:¬((x.c i).st=1/\(x.c i).J=0):=λe=>d ((E i).2 e)
 have C:=((h.r4.2 i f).2 k l).2 (λd=>by have:=d.1;omega);have D:=h.good_pair t i k f l;have w:(x.c i).J=2:=by
  obtain⟨_,b,_⟩|⟨_,b⟩|⟨a,b⟩:=h.r2.1 i f;have:=b.2.2.2.2.2;omega;have:=b.2.1;omega;have:=b.2.2.2.2.1;have:=v i f;have:(x.c i).J≠0:=λe=>P ⟨a,e⟩
  omega
 have J:k<eH x i:=by unfold eH;rw[if_pos w];exact l
 have:=(h.r7 t i f).2 k J;exact⟨qH _ D.1 C.1.1 this.1 _,qH _ D.2 C.2.1 this.2 _⟩;exfalso;obtain e|e:=e <;> omega
theorem Snd.u2(h:Snd x)(c:x.E=2):Snd (dX x):=by
 unfold dX;split;grind[Snd.u2a,Snd.u2b,dX];have a:=h.look c;split
 ·rename_i e;refine a.1.s.ended (a.1.E▸c) e (λi d=>?_);have b:i<x.B.length:=a.1.B▸d;have f:(zC x).B[i]=x.B[i]:=by simp[a.1.B]
  rw[f];exact a.2 i b
 exact a.1.s
def zK(c:Cl):Cl:={ c with J:=0 }
def dZ(x:Hp):Hp:=if x.I=x.A.length then dC x 4 0 else
 if whB (x.c x.I.toNat)=true then { x with K:=x.K-(1+(x.c x.I.toNat).F.length),A:=x.A.set x.I.toNat Cl0,I:=x.I+1 }
 else { x with A:=x.A.set x.I.toNat (zK (x.c x.I.toNat)),I:=x.I+1 }
theorem a2b(cs:List Cl)(i:Nat)(c:Cl)(b:i<cs.length):dH (cs.set i c)+cL cs[i]=dH cs+cL c:=by
 induction cs generalizing i with
 | nil=>simp at b
 | cons a cs ih=>
  cases i with
  | zero=>simp[dH];omega
  | succ i=>
   have:=ih i (by simpa using b);simp[dH]at this ⊢;omega
theorem Snd.u3end(h:Snd x)(P:x.E=3)(O:x.I=x.A.length):Snd (dC x 4 0):=by
 have v:x.D.length=0:=h.r5.1 (λe=>by obtain e|e:=e <;> omega);have G:x.D=[]:=mR v;have⟨y,l⟩:=obE (dC x 4 0);have p:∀q,y.c q=x.c q:=λq=>by rw[l];rfl
 have n:y.A=x.A:=by rw[l];rfl
 have L:y.E=4:=by rw[l];rfl
 have M:y.I=0:=by rw[l];rfl
 have J:y.sub=0:=by rw[l];rfl
 have D:y.B=x.B:=by rw[l];rfl
 have t:y.D=[]:=l▸G;have y1:y.M=x.M/\y.K=x.K/\y.born=x.born/\y.per=x.per/\y.V=x.V/\y.Q=x.Q/\y.S=x.S:=l▸⟨rfl,rfl,rfl,rfl,rfl,rfl,rfl⟩;rw[<-l];have C:∀i,¬uW y i:=λi d=>by have:=d.1;omega
 have z:∀i,i<x.A.length->¬uW x i:=λi j d=>by have:=d.2.1;omega
 have F:∀i,i<x.A.length->(x.c i).st≠2:=λi j e=>by
  obtain⟨a,_⟩|⟨_,b⟩|⟨a,_⟩:=h.r2.1 i j;omega;have:=b.2.1;omega;omega
 have r:=h.r1;have qH:∀u m I,hE x u m->hE y u I:=λu m I A=>by
  refine⟨n▸A.1,λo=>.inr ⟨?_,C _⟩⟩;rw[p];have w:u.a.toNat<x.A.length:=by obtain f|f|f:=A.1 <;> omega
  obtain⟨a,_⟩|⟨a,_⟩:=A.2 o;exact(F _ w a).elim;exact a
 refine⟨⟨y1.1▸r.M,D▸r.B,by rw[n,y1.1];exact r.A,by rw[t];simp,y1.2.2.1▸r.born,y1.2.2.2.2.2.1▸r.Q,y1.2.2.2.2.2.2▸r.S,y1.2.2.2.1▸r.per,y1.2.2.2.2.1▸r.V,by rw[L];omega,by rw[M];omega,by rw[J];omega⟩,⟨λi j=>?_,λi j=>by rw[n]at j;rw[p];intro E k o;rw[p];exact h.r2.2 i j E k o⟩,⟨by rw[y1.2.1,n];exact h.r3.1,by rw[y1.2.1,y1.1];exact h.r3.2⟩,⟨λi j=>?_,λi j=>⟨λe=>C i e.1,λk o=>⟨λd=>(C i d).elim,λd=>by rw[n]at j;rw[p]at o ⊢;have H:=((h.r4.2 i j).2 k o).2 (z i j);exact⟨qH _ _ _ H.1,qH _ _ _ H.2⟩⟩⟩⟩,⟨λ_=>by rw[t];rfl,λi j=>?_,λg s=>by rw[t]at s;cases s⟩,by grind[R6,dC],λe=>?_,λi j e=>by have:=e.1;omega⟩;rw[n]at j;unfold cZ;rw[p];obtain a|⟨_,b⟩|⟨a,b⟩:=h.r2.1 i j
 ·exact .inl a
 have:=b.2.1;omega;exact .inr (.inr ⟨a,b.1,b.2.1,b.2.2.1,y1.2.2.1▸b.2.2.2.1,b.2.2.2.2⟩);have B:i<x.B.length:=D▸j;have N:y.B[i]=x.B[i]:=by simp[D]
 rw[N];exact qH _ _ _ (h.r4.1 i B);rw[n]at j;have c:=h.r5.2.1 i j;have K:(x.c i).J≠2:=λe=>by
  obtain m|m:=c.2.2 e;obtain m|m:=m <;> omega
  have:=m.2;omega
 unfold a0n;rw[p,t];refine⟨λe=>?_,λ_=>by simp[cnt],λe=>(K e).elim⟩;have:=c.1 e;rw[G]at this;simp[cnt]at this;exfalso;obtain e|e:=e <;> omega
theorem c7a(c:Cl):whB c=true↔c.st=1/\c.J=0:=by simp[whB]
theorem Snd.nogray(h:Snd x)(a:¬uD x):x.D=[]:=mR (h.r5.1 a)
theorem Snd.nomoved(h:Snd x)(f:x.E<4)(i:Nat)(d:i<x.A.length):(x.c i).st≠2:=λe=>by
 obtain⟨a,_⟩|⟨_,b⟩|⟨a,_⟩:=h.r2.1 i d;omega;have:=b.2.1;omega;omega
theorem Snd.u3cell(h:Snd x)(hp:x.E=3)(i:Nat)(hi:x.I=(i:Int))(B:i<x.A.length)(t:Cl)(D:Int)(E:(t=Cl0/\whB (x.c i)=true/\D=x.K-(1+(x.c i).F.length))\/(t=zK (x.c i)/\¬whB (x.c i)=true/\D=x.K)):
  Snd { x with K:=D,A:=x.A.set i t,I:=x.I+1 }:=by
 have V:=h.nogray (λe=>by obtain e|e:=e <;> omega);have⟨y,v⟩:=obE ({ x with K:=D,A:=x.A.set i t,I:=x.I+1 }:Hp);have W:∀q,y.c q=if q=i then t else x.c q:=λq=>v▸Hp.c_set x i t B q
 have z:y.A.length=x.A.length:=by rw[v];simp
 have R:y.A=x.A.set i t:=by rw[v]
 have H:y.E=3:=v▸hp;have N:y.I=x.I+1:=by rw[v]
 have X:y.sub=x.sub:=by rw[v]
 have T:y.B=x.B:=by rw[v]
 have I:y.D=[]:=v▸V;have yu:y.K=D:=by rw[v]
 have y1:y.M=x.M/\y.born=x.born/\y.per=x.per/\y.V=x.V/\y.Q=x.Q/\y.S=x.S:=v▸⟨rfl,rfl,rfl,rfl,rfl,rfl⟩;rw[<-v];have l:∀q,q≠i->y.c q=x.c q:=λq e=>by rw[W,if_neg e]
 have A:y.c i=t:=by rw[W,if_pos rfl]
 have ci:t.J=0:=by obtain⟨e,_⟩|⟨e,_⟩:=E <;> rw[e] <;> rfl
 have L:uW x i↔whB (x.c i)=true:=by grind[uW,whB,Hp.c,c7a,Cl0,zK]
 have dm:∀q,uW y q->uW x q/\q≠i:=λq d=>by grind[uW,Cl0,whB,Hp.c,zK]
 have qH:∀u m,hE x u m->hE y u m:=λu m hl=>by grind[hE,uQ.A,Snd.nomoved,Cl0,whB,Hp.c,zK]
 have r:=h.r1;refine⟨⟨y1.1▸r.M,T▸r.B,by rw[z,y1.1];exact r.A,by rw[I];simp,y1.2.1▸r.born,y1.2.2.2.2.1▸r.Q,y1.2.2.2.2.2▸r.S,y1.2.2.1▸r.per,y1.2.2.2.1▸r.V,by rw[H];omega,by rw[N,z];omega,X▸r.sub⟩,⟨λq f=>?_,λq f o k s G=>?_⟩,?_,⟨λq f=>?_,λq f=>⟨λe=>?_,λk s=>⟨λd=>?_,λd=>?_⟩⟩⟩,⟨λ_=>by rw[I];rfl,λq f=>?_,λg C=>by rw[I]at C;cases C⟩,by unfold R6;rw[H,X];exact⟨λe=>by omega,λe=>by omega,λe=>by omega,λ_=>h.r6.2.2.2 (by omega)⟩,λe=>?_,λq f e=>by have:=e.1;omega⟩;rw[z]at f;unfold cZ;by_cases e:q=i
 ·subst e;rw[A];obtain⟨n,_⟩|⟨n,_⟩:=E
  ·rw[n];exact .inl ⟨rfl,⟨rfl,rfl,rfl,rfl,rfl,rfl⟩,rfl⟩
  rw[n];obtain⟨a,b,c⟩|⟨a,_⟩|⟨a,b⟩:=h.r2.1 q f
  ·exact .inl ⟨a,⟨b.1,b.2.1,b.2.2.1,b.2.2.2.1,rfl,b.2.2.2.2.2⟩,c⟩
  exact(h.nomoved (by omega) q f a).elim;exact .inr (.inr ⟨a,b.1,b.2.1,b.2.2.1,y1.2.1▸b.2.2.2.1,⟨show(0:Int)<=0 by omega,show(0:Int)<=2 by omega⟩,b.2.2.2.2.2⟩)
 rw[l q e];obtain a|⟨a,_⟩|⟨a,b⟩:=h.r2.1 q f
 ·exact .inl a
 exact(h.nomoved (by omega) q f a).elim;exact .inr (.inr ⟨a,b.1,b.2.1,b.2.2.1,y1.2.1▸b.2.2.2.1,b.2.2.2.2⟩);rw[z]at f;obtain⟨n,_⟩|⟨n,_⟩:=E
 ·have Z:q≠i:=λe=>by rw[e,A,n]at o;exact o rfl
  have n2:k≠i:=λe=>by grind[Cl0,whB,Hp.c,zK]
  rw[l q Z,l k n2]at G;rw[l q Z]at o;exact h.r2.2 q f o k s G
 have j:∀p,(y.c p).st=(x.c p).st/\(y.c p).born=(x.c p).born/\(y.c p).to=(x.c p).to:=λp=>by
  by_cases e:p=i;rw[e,A,n];exact⟨rfl,rfl,rfl⟩;rw[l p e];exact⟨rfl,rfl,rfl⟩
 rw[(j q).1,(j q).2.1,(j q).2.2,(j k).1,(j k).2.1,(j k).2.2]at G;rw[(j q).1]at o;exact h.r2.2 q f o k s G;have Q:=a2b x.A i t B;rw[Hp.c_eq x i B]at Q;unfold R3;rw[yu,R,y1.1];have J:=h.r3;obtain⟨n,w,e3⟩|⟨n,w,e3⟩:=E
 ·have h1:cL (x.c i)=1+(x.c i).F.length:=by unfold cL;rw[if_pos ((c7a _).1 w).1]
  have P:cL t=0:=by rw[n];rfl
  rw[h1,P]at Q;have:=J.1;have:=J.2;refine⟨?_,?_⟩<;>omega
 have P:cL t=cL (x.c i):=by rw[n];rfl
 rw[P]at Q;have:=J.1;have:=J.2;refine⟨?_,?_⟩<;>omega
 have M:q<x.B.length:=T▸f;have n:y.B[q]=x.B[q]:=by simp[T]
 rw[n];exact qH _ _ (h.r4.1 q M);rw[z]at f;have⟨K,S⟩:=dm q e.1;have Y:=e.2;rw[l q S]at Y;exact(h.r4.2 q f).1 ⟨K,Y⟩;rw[z]at f;have⟨K,S⟩:=dm q d;rw[l q S]at s ⊢;rw[z];exact((h.r4.2 q f).2 k s).1 K;rw[z]at f;have F:∀u,hE x u (¬cN x q k)->hE y u (¬cN y q k):=λu hl=>by grind[hE,cN,Cl0,whB,Hp.c,zK]
 by_cases e:q=i;subst e;rw[A]at s ⊢;obtain⟨n,_⟩|⟨n,w,_⟩:=E
 ·rw[n]at s;simp[Cl0]at s
 rw[n]at s ⊢;have:=((h.r4.2 q f).2 k s).2 (λd=>w (L.1 d));exact⟨F _ this.1,F _ this.2⟩;rw[l q e]at s ⊢;have nd:¬uW x q:=λO=>d ⟨H,by rw[N];have:=O.2.1;omega,l q e▸O.2.2.1,l q e▸O.2.2.2⟩
 have:=((h.r4.2 q f).2 k s).2 nd;exact⟨F _ this.1,F _ this.2⟩;rw[z]at f;unfold a0n;rw[I,H,N];by_cases e:q=i
 ·grind[cnt,Cl0,whB,Hp.c,zK]
 rw[l q e];have c:=h.r5.2.1 q f;refine⟨λU=>?_,λ_=>by simp[cnt],λU=>.inr ⟨rfl,?_⟩⟩
 ·have:=c.1 U;rw[V]at this;simp[cnt]at this
 obtain m|m:=c.2.2 U
 ·obtain m|m:=m <;> omega
 have:=m.2;omega;exfalso;obtain e|e:=e <;> omega
theorem Snd.u3(h:Snd x)(d:x.E=3):Snd (dZ x):=by
 unfold dZ;split;rename_i a;exact h.u3end d a;rename_i b;have f:=h.r1.I;have e:x.I=((x.I.toNat:Nat):Int):=by omega
 split;grind[Snd.u3cell,Snd.I,Cl0,dZ];grind[Snd.u3cell,Snd.I,zK,Hp.c,dZ]
def mvC(t:Nat):Cl:=⟨2,0,0,0,0,0,t,[]⟩
def mvW(t f:Nat)(r:Wd):Wd:=if r.k=2/\r.a=(f:Int) then ⟨2,0,t⟩ else r
def qY(x:Hp)(t f:Nat):Hp:={ x with A:=(x.A.set t (x.c f)).set f (mvC t),B:=x.B.map (mvW t f) }
def uE(x:Hp):Nat:=x.A.findIdx (λc=>c.st == 0)
def a0y(x:Hp):Nat->Int
 | 0=>-1
 | k+1=>if (x.c k).st=1 then (k:Int) else a0y x k
def unit4(x:Hp):Hp:=if a0y x x.A.length<=(uE x:Int) then dC x 5 0 else qY x (uE x) (a0y x x.A.length).toNat
theorem a2c(x:Hp):∀k,(a0y x k = -1/\∀i,i<k->(x.c i).st≠1)\/∃f:Nat,a0y x k=(f:Int)/\f<k/\(x.c f).st=1/\∀i,f<i->i<k->(x.c i).st≠1
 | 0=>.inl ⟨rfl,λi hi=>by omega⟩
 | k+1=>by
  unfold a0y;by_cases e:(x.c k).st=1;grind[a0y,Hp.c];rw[if_neg e];obtain⟨h1,h2⟩|⟨f,h1,h2,h3,h4⟩:=a2c x k
  ·grind[a0y,Hp.c]
  grind[a0y,Hp.c]
theorem a0i(x:Hp):uE x<=x.A.length/\(∀i,i<uE x->(x.c i).st≠0)/\(uE x<x.A.length->(x.c (uE x)).st=0):=by grind[uE,uQ.A,Hp.c,Hp.c_eq]
theorem Snd.mv(h:Snd x)(R:x.E=4)(t f:Nat)(ae:t<f)(M:f<x.A.length)(h0:(x.c t).st=0)(N:∀k,k<t->(x.c k).st≠0)(h1:(x.c f).st=1):Snd (qY x t f):=by
 have hg:=h.nogray (λe=>by obtain e|e:=e <;> omega);have ht:t<x.A.length:=by omega
 have⟨y,z⟩:=obE (qY x t f:Hp);have A:y.A.length=x.A.length:=by rw[z];simp[qY]
 have S:∀q,y.c q=if q=f then mvC t else if q=t then x.c f else x.c q:=λq=>by grind[Hp.c,mvC,Hp.c_set,uQ.A,tJ.set,qY]
 have X:y.A=(x.A.set t (x.c f)).set f (mvC t):=by rw[z];rfl
 have J:y.E=4:=z▸R;have yh:y.I=x.I:=by rw[z];rfl
 have ys:y.sub=x.sub:=by rw[z];rfl
 have Z:y.B=x.B.map (mvW t f):=by rw[z];rfl
 have P:y.D=[]:=z▸hg;have y1:y.M=x.M/\y.K=x.K/\y.born=x.born/\y.per=x.per/\y.V=x.V/\y.Q=x.Q/\y.S=x.S:=z▸⟨rfl,rfl,rfl,rfl,rfl,rfl,rfl⟩;rw[<-z];have B:y.c f=mvC t:=by rw[S,if_pos rfl]
 have v:y.c t=x.c f:=by rw[S,if_neg (by omega),if_pos rfl]
 have s:∀q,q≠f->q≠t->y.c q=x.c q:=λq a b=>by rw[S,if_neg a,if_neg b]
 have Q:∀i,¬uW y i:=λi d=>by have:=d.1;omega
 have H:∀i,¬uW x i:=λi d=>by have:=d.1;omega
 have C:∀i k,¬cN y i k:=λi k e=>e.1 J
 have tgt:∀i,i<x.A.length->(x.c i).st=2->(x.c i).to.toNat≠f/\(x.c i).to.toNat≠t/\(x.c i).to≠(t:Int):=λi hi e=>by
  obtain⟨a,_⟩|⟨_,b⟩|⟨a,_⟩:=h.r2.1 i hi;omega;have⟨_,_,b3,b4,b5,b6⟩:=b;refine⟨λo=>?_,λo=>?_,λo=>?_⟩
  ·exact b6 R t (by omega) h0
  rw[o]at b5;omega;grind[Hp.c,qY];omega
 have qH:∀u (m T:Prop),T->hE x u m->hE y u T:=λu m T L F=>by
  refine⟨A▸F.1,λj=>?_⟩;by_cases e:u.a.toNat=f;exact .inl ⟨by rw[e,B];rfl,L⟩;have o:u.a.toNat≠t:=λo=>by
   obtain⟨a,_⟩|⟨a,_⟩:=F.2 j <;> rw[o]at a <;> omega
  rw[s _ e o];obtain⟨a,_⟩|⟨a,_⟩:=F.2 j;exact .inl ⟨a,L⟩;exact .inr ⟨a,Q _⟩
 have r:=h.r1;refine⟨⟨y1.1▸r.M,by rw[Z,mZ];exact r.B,by rw[A,y1.1];exact r.A,by rw[P];simp,y1.2.2.1▸r.born,y1.2.2.2.2.2.1▸r.Q,y1.2.2.2.2.2.2▸r.S,y1.2.2.2.1▸r.per,y1.2.2.2.2.1▸r.V,by rw[J];omega,by rw[yh,A];exact r.I,ys▸r.sub⟩,⟨λq n=>?_,λq n aa k j O=>?_⟩,?_,⟨λq n=>?_,λq n=>⟨λe=>Q q e.1,λk j=>⟨λd=>(Q q d).elim,λ_=>?_⟩⟩⟩,⟨λ_=>by rw[P];rfl,λq n=>?_,λg I=>by rw[P]at I;cases I⟩,by unfold R6;rw[J,yh,ys];exact⟨λ_=>h.r6.1 (.inr R),λe=>by omega,λe=>by omega,λe=>by omega⟩,λe=>?_,λq n e=>by have:=e.1;omega⟩
 ·rw[A]at n;unfold cZ;by_cases e:q=f
  ·subst e;rw[B];refine .inr (.inl ⟨rfl,⟨rfl,rfl,rfl,rfl,rfl,rfl⟩,by rw[J];omega,show(0:Int)<=(t:Int) by omega,show(t:Int)<(q:Int) by omega,?_,λ_ k j=>?_⟩)
   ·show(y.c (t:Int).toNat).st=1;have:((t:Int)).toNat=t:=by omega
    rw[this,v];exact h1
   have ab:(k:Int)<(t:Int):=j;rw[s k (by omega) (by omega)];exact N k (by omega)
  by_cases o:q=t;focus
   subst o;rw[v];obtain⟨a,_⟩|⟨a,_⟩|⟨a,b⟩:=h.r2.1 f M;omega;omega
  rotate_left
  focus
   rw[s q e o];obtain a|⟨a,b⟩|⟨a,b⟩:=h.r2.1 q n;exact .inl a;have⟨t1,t2,_⟩:=tgt q n a;refine .inr (.inl ⟨a,b.1,by rw[J];omega,b.2.2.1,b.2.2.2.1,s _ t1 t2▸b.2.2.2.2.1,λ_ k j=>?_⟩);by_cases ek:k=f
   ·rw[ek,B];simp[mvC]
   by_cases K:k=t
   ·rw[K,v];omega
   rw[s k ek K];exact b.2.2.2.2.2 R k j
  all_goals
   ·exact .inr (.inr ⟨a,b.1,b.2.1,b.2.2.1,y1.2.2.1▸b.2.2.2.1,b.2.2.2.2⟩)
 rw[A]at n;have ac:∀p D,p<x.A.length->D<x.A.length->p≠D->(x.c p).st≠0->¬((x.c D).st=(x.c p).st/\(x.c D).born=(x.c p).born/\(x.c D).to=(x.c p).to):=λp D w Y E hs e=>by
  obtain l|l:=Nat.lt_or_gt_of_ne E;exact h.r2.2 D Y (e.1▸hs) p l ⟨e.1.symm,e.2.1.symm,e.2.2.symm⟩;exact h.r2.2 p w hs D l e
 have ad:k<x.A.length:=by omega
 have G:∀p,p<x.A.length->p≠f->p≠t->¬((x.c p).st=2/\(x.c p).to=(t:Int)):=λp w _ _ e=>(tgt p w e.1).2.2 e.2
 by_cases q1:q=f;grind[mvC,Hp.c,qY];by_cases q2:q=t
 ·grind[Hp.c,qY]
 rw[s q q1 q2]at O aa;by_cases k1:k=f
 ·subst k1;rw[B]at O;exact G q n q1 q2 ⟨O.1.symm,O.2.2.symm⟩
 grind[Hp.c,qY];have U:=a2b x.A t (x.c f) ht;have W:=a2b (x.A.set t (x.c f)) f (mvC t) (by simpa using M);rw[Hp.c_eq x t ht]at U;have e1:(x.A.set t (x.c f))[f]'(by simpa using M)=x.c f:=by
  rw[ny (by omega),Hp.c_eq x f M]
 rw[e1]at W;have z1:cL (x.c t)=0:=by unfold cL;rw[if_neg (by omega)]
 have z2:cL (mvC t)=0:=by unfold cL;rw[if_neg (by simp[mvC])]
 unfold R3;rw[y1.2.1,y1.1,X];have:=h.r3.1;have:=h.r3.2;refine⟨?_,?_⟩<;>omega
 have V:q<x.B.length:=by rw[Z,mZ]at n;exact n
 have o:y.B[q]=mvW t f x.B[q]:=by simp[Z]
 rw[o];have F:=h.r4.1 q V;unfold mvW;split;refine⟨.inr (.inr ⟨rfl,rfl,show(0:Int)<=(t:Int) by omega,show(t:Int)<_ by rw[A];omega⟩),λ_=>.inr ⟨?_,Q _⟩⟩;show(y.c (t:Int).toNat).st=1;have:((t:Int)).toNat=t:=by omega
 rw[this,v];exact h1;rename_i E;refine⟨A▸F.1,λj=>?_⟩;have ha:0<=x.B[q].a:=by obtain g|g|g:=F.1 <;> omega
 have e3:x.B[q].a.toNat≠f:=λe=>E ⟨j,by omega⟩
 obtain⟨_,b⟩|⟨a,_⟩:=F.2 j;exact b.elim;grind[Hp.c,qY];rw[A]at n;by_cases e:q=f
 ·grind[mvC,Hp.c,qY]
 by_cases o:q=t
 ·subst o;rw[v]at j ⊢;have:=((h.r4.2 f M).2 k j).2 (H f);exact⟨qH _ _ _ (C q k) this.1,qH _ _ _ (C q k) this.2⟩
 rw[s q e o]at j ⊢;have:=((h.r4.2 q n).2 k j).2 (H q);exact⟨qH _ _ _ (C q k) this.1,qH _ _ _ (C q k) this.2⟩;rw[A]at n;have cx:∀p,p<x.A.length->(x.c p).J≠1/\(x.c p).J≠2:=λp w=>by
  have c:=h.r5.2.1 p w;refine⟨λe=>?_,λe=>?_⟩;have:=c.1 e;rw[hg]at this;simp[cnt]at this;obtain m|m:=c.2.2 e
  ·obtain m|m:=m <;> omega
  have:=m.1;omega
 have cy:(y.c q).J≠1/\(y.c q).J≠2:=by grind[Hp.c,mvC,qY]
 exact⟨λe=>(cy.1 e).elim,λ_=>by rw[P];simp[cnt],λe=>(cy.2 e).elim⟩;exfalso;obtain e|e:=e <;> omega
theorem Snd.cols(h:Snd x)(d:x.E≠1/\x.E≠2/\x.E≠3)(i:Nat)(b:i<x.A.length):(x.c i).J≠1/\(x.c i).J≠2:=by
 have c:=h.r5.2.1 i b;refine⟨λe=>?_,λe=>?_⟩;have:=c.1 e;rw[h.nogray (λe=>by obtain e|e:=e <;> omega)]at this;simp[cnt]at this;obtain m|m:=c.2.2 e
 ·obtain m|m:=m <;> omega
 have:=m.1;omega
theorem Snd.turned(h:Snd x)(z:x.E≠1/\x.E≠2/\x.E≠3)(p j n q:Int)(f:0<=p/\p<=6/\p≠2/\p≠3/\p≠4)(I:0<=j/\j<=x.A.length)(F:0<=n/\n<=200)(E:0<=q/\q<=1000000000)(y:p<4->∀i,i<x.A.length->(x.c i).st≠2)
  (s:∀i k,i<x.A.length->k<(x.c i).F.length->¬cN x i k->¬cN { x with E:=p,I:=j,sub:=n,Q:=q } i k) (G:R6 { x with E:=p,I:=j,sub:=n,Q:=q }) (J:p=1->j=0) (H:R8 { x with E:=p,I:=j,sub:=n,Q:=q }):Snd { x with E:=p,I:=j,sub:=n,Q:=q }:=by
 have r:=h.r1;have qH:∀(w:Wd)(m u:Prop),(m->u)->hE x w m->hE { x with E:=p,I:=j,sub:=n,Q:=q } w u:=λw m u v A=>by
  refine⟨A.1,λo=>?_⟩;obtain⟨a,b⟩|⟨a,_⟩:=A.2 o;exact .inl ⟨a,v b⟩;exact .inr ⟨a,λd=>f.2.2.2.1 d.1⟩
 refine⟨⟨r.M,r.B,r.A,r.D,r.born,E,r.S,r.per,r.V,⟨f.1,f.2.1⟩,I,F⟩,⟨λi g=>?_,h.r2.2⟩,h.r3,⟨λi g=>qH _ _ _ id (h.r4.1 i g),λi g=>⟨λd=>f.2.2.2.1 d.1.1,λk o=>⟨λd=>(f.2.2.2.1 d.1).elim,λ_=>by have:=((h.r4.2 i g).2 k o).2 (λd=>z.2.2 d.1);exact⟨qH _ _ _ (s i k g o) this.1,qH _ _ _ (s i k g o) this.2⟩⟩⟩⟩,⟨λ_=>by show x.D.length=0;rw[h.nogray (λe=>by obtain e|e:=e <;> omega)];rfl,λi g=>by have c:=h.cols z i g;exact⟨λe=>(c.1 e).elim,λe=>(h.r5.2.1 i g).2.1 e,λe=>(c.2 e).elim⟩,h.r5.2.2⟩,G,λC i g=>?_,H⟩;obtain a|⟨a,b⟩|a:=h.r2.1 i g
 ·exact .inl a
 refine .inr (.inl ⟨a,b.1,?_,b.2.2.1,b.2.2.2.1,b.2.2.2.2.1,λe=>(f.2.2.2.2 e).elim⟩);show 4<=p;by_cases l:p<4
 ·exact(y l i g a).elim
 omega;exact .inr (.inr a);have D:p=1:=by
  have e:p=1\/p=2:=C;omega
 refine⟨λe=>?_,λk o=>?_⟩;grind[Cl.p,Hp.c,cN,R6,R8];have t:k<(if (x.c i).J=2 then (x.c i).F.length else if p=2/\x.D.length≠0/\x.D.getD 0 0=(i:Int) then n.toNat else 0):=o;rw[if_neg (h.cols z i g).2,if_neg (λe=>f.2.2.1 e.1)]at t;omega
theorem Snd.begin(h:Snd x)(c:x.E=0):Snd (dC x 1 0):=by
 refine h.turned ⟨by omega,by omega,by omega⟩ 1 0 0 x.Q (by refine⟨?_,?_,?_,?_,?_⟩<;>omega) ⟨by omega,by omega⟩ ⟨by omega,by omega⟩ h.r1.Q (λ_ i a=>h.nomoved (by omega) i a) (λi k _ _ e=>(e ⟨by omega,λb=>by omega⟩).elim) ⟨λe=>?_,λe=>?_,λe=>?_,λ_=>rfl⟩ (λ_=>rfl) (λi a e=>?_);all_goals grind[dC]
theorem Snd.u4(h:Snd x)(g:x.E=4):Snd (unit4 x):=by
 unfold unit4;have⟨f,b,d⟩:=a0i x;split;refine h.turned ⟨by omega,by omega,by omega⟩ 5 0 0 x.Q (by refine⟨?_,?_,?_,?_,?_⟩<;>omega) ⟨by omega,by omega⟩ ⟨by omega,by omega⟩ h.r1.Q (λe=>by omega) (λi k _ _ _ e=>?_) ⟨λe=>?_,λe=>?_,λ_=>⟨λ_=>rfl,λ_=>?_⟩,λe=>?_⟩ (λe=>by omega) (λi a e=>?_)
 ·have c:(i:Int)<0\/((i:Int)=0/\(k:Int)<0):=e.2 rfl;omega
 grind[unit4];grind[unit4];show(0:Int)<=_;omega;grind[unit4];grind[unit4];grind[a2c,uQ.A,a0y,Snd.mv,uE,unit4]
def zX(x:Hp)(c:Cl)(k:Nat):Cl:={ c with F:=c.F.set k ⟨qK x (c.p k).key,qK x (c.p k).val⟩ }
def dY(x:Hp):Hp:=if x.I=x.A.length then dC x 6 x.A.length else
 if x.sub<(x.c x.I.toNat).F.length then { x with A:=x.A.set x.I.toNat (zX x (x.c x.I.toNat) x.sub.toNat),sub:=x.sub+1 }
 else { x with I:=x.I+1,sub:=0 }
theorem Snd.mend(h:Snd x)(hp:x.E=5)(i k:Nat)(hi:x.I=(i:Int))(o:i<x.A.length)(N:x.sub=(k:Int))(ac:k<(x.c i).F.length):Snd { x with A:=x.A.set i (zX x (x.c i) k),sub:=x.sub+1 }:=by
 have aa:(x.c i).st=1:=by
  obtain⟨_,b,_⟩|⟨_,b⟩|⟨a,_⟩:=h.r2.1 i o;have:=b.2.2.2.2.2;omega;have:=b.1.2.2.2.2.2;omega;exact a
 have⟨y,s⟩:=obE ({ x with A:=x.A.set i (zX x (x.c i) k),sub:=x.sub+1 }:Hp);have T:∀q,y.c q=if q=i then zX x (x.c i) k else x.c q:=λq=>s▸Hp.c_set x i _ o q
 have t:y.A.length=x.A.length:=by rw[s];simp
 have L:y.A=x.A.set i (zX x (x.c i) k):=by rw[s]
 have P:y.E=5:=s▸hp;have yh:y.I=x.I:=by rw[s]
 have V:y.sub=x.sub+1:=by rw[s]
 have M:y.B=x.B:=by rw[s]
 have K:y.D=[]:=by rw[s];exact h.nogray (λe=>by obtain e|e:=e <;> omega)
 have y1:y.M=x.M/\y.K=x.K/\y.born=x.born/\y.per=x.per/\y.V=x.V/\y.Q=x.Q/\y.S=x.S:=s▸⟨rfl,rfl,rfl,rfl,rfl,rfl,rfl⟩;rw[<-s];have X:y.c i=zX x (x.c i) k:=by rw[T,if_pos rfl]
 have l:∀q,(y.c q).st=(x.c q).st/\(y.c q).kind=(x.c q).kind/\(y.c q).T=(x.c q).T/\(y.c q).U=(x.c q).U/\(y.c q).born=(x.c q).born/\(y.c q).J=(x.c q).J/\(y.c q).to=(x.c q).to/\(y.c q).F.length=(x.c q).F.length:=λq=>by grind[Hp.c,zX]
 have B:∀q,¬uW y q:=λq d=>by have:=d.1;omega
 have F:∀q,¬uW x q:=λq d=>by have:=d.1;omega
 have qH:∀(u:Wd)(m v:Prop),(m->v)->hE x u m->hE y u v:=λu m v ab A=>by grind[hE,Hp.c,zX]
 have W:∀(u:Wd)(m v:Prop),hE x u m->hE y (qK x u) v:=λu m v A=>by
  unfold qK;split;rename_i e;have E:u.a.toNat<x.A.length:=by obtain f|f|f:=A.1 <;> omega
  obtain⟨a,_⟩|⟨_,b⟩|⟨a,_⟩:=h.r2.1 _ E;have:=e.2;omega;have⟨_,_,b3,b4,Z,_⟩:=b;refine⟨.inr (.inr ⟨rfl,rfl,b3,show(x.c u.a.toNat).to<_ by rw[t];omega⟩),λ_=>.inr ⟨?_,B _⟩⟩;rw[(l _).1];exact Z;have:=e.2;omega;rename_i e;refine⟨t▸A.1,λN=>?_⟩;rw[(l _).1];obtain⟨a,_⟩|⟨a,_⟩:=A.2 N
  ·exact(e ⟨N,a⟩).elim
  exact .inr ⟨a,B _⟩
 have I:=h.ok.p200 i o;have r:=h.r1;refine⟨⟨y1.1▸r.M,M▸r.B,by rw[t,y1.1];exact r.A,by rw[K];simp,y1.2.2.1▸r.born,y1.2.2.2.2.2.1▸r.Q,y1.2.2.2.2.2.2▸r.S,y1.2.2.2.1▸r.per,y1.2.2.2.2.1▸r.V,by rw[P];omega,by rw[yh,t];exact r.I,by rw[V];omega⟩,⟨λq n=>?_,λq n Q j C O=>?_⟩,by unfold R3;rw[y1.2.1,y1.1,L];have:dH (x.A.set i (zX x (x.c i) k))=dH x.A:=a3m _ _ _ o (by rw[Hp.c_eq x i o];unfold cL zX;simp);rw[this];exact h.r3,⟨λq n=>?_,λq n=>⟨λe=>B q e.1,λj C=>⟨λd=>(B q d).elim,λ_=>?_⟩⟩⟩,⟨λ_=>by rw[K];rfl,λq n=>by grind[Hp.c,Snd.cols,a0n,cnt,zX],λg w=>by rw[K]at w;cases w⟩,by grind[R6,Snd.I,Hp.c,zX],λe=>?_,λq n e=>by have:=e.1;omega⟩;rw[t]at n;have⟨z,J,e3,Y,G,U,D,e8⟩:=l q;unfold cZ a2q qL a5g;rw[z,J,e3,Y,G,U,D,e8,y1.2.2.1,P,(l _).1];obtain a|⟨a,b⟩|a:=h.r2.1 q n
 ·exact .inl a
 exact .inr (.inl ⟨a,b.1,by omega,b.2.2.1,b.2.2.2.1,b.2.2.2.2.1,λe=>by omega⟩);exact .inr (.inr a);rw[t]at n;have⟨z,_,_,_,G,_,D,_⟩:=l q;have⟨f1,_,_,_,R,_,f7,_⟩:=l j;rw[z,G,D,f1,R,f7]at O;rw[z]at Q;exact h.r2.2 q n Q j C O;have H:q<x.B.length:=M▸n;have J:y.B[q]=x.B[q]:=by simp[M]
 rw[J];exact qH _ _ _ id (h.r4.1 q H);rw[t]at n;rw[(l q).2.2.2.2.2.2.2]at C;have h4:=((h.r4.2 q n).2 j C).2 (F q);by_cases e:q=i
 ·grind[Hp.c,Cl.p,qK,zX,cN]
 grind[cN,Hp.c,zX];exfalso;obtain e|e:=e <;> omega
theorem Snd.u5(h:Snd x)(d:x.E=5):Snd (dY x):=by
 have s:=h.r1.I;have u:=h.r1.sub;have r:=h.r6.2.2.1 d;unfold dY;split;rename_i w;refine h.turned ⟨by omega,by omega,by omega⟩ 6 x.A.length 0 x.Q (by refine⟨?_,?_,?_,?_,?_⟩<;>omega) ⟨by omega,by omega⟩ ⟨by omega,by omega⟩ h.r1.Q (λe=>by omega) (λi k b _ e=>(e ⟨by omega,λ_=>.inl (by omega)⟩).elim) ⟨λe=>?_,λe=>?_,λe=>?_,λ_=>rfl⟩ (λe=>by omega) (λi b e=>?_)
 ·grind[dY]
 grind[dY];grind[dY];grind[uQ.A,dY];rename_i l;split
 ·grind[Snd.mend,Snd.I,dY]
 rename_i a;have⟨i,b⟩:∃i:Nat,x.I=(i:Int):=⟨x.I.toNat,by omega⟩;have p:i<x.A.length:=by omega
 have o:x.I.toNat=i:=by omega
 rw[o]at r a;have j:∀k,k<(x.c i).F.length->(k:Int)<x.sub:=λk f=>by grind[Hp.c,dY]
 have n:({ x with I:=x.I+1,sub:=0 }:Hp)={ x with E:=x.E,I:=x.I+1,sub:=0,Q:=x.Q }:=rfl;rw[n,d];refine h.turned ⟨by omega,by omega,by omega⟩ 5 (x.I+1) 0 x.Q (by refine⟨?_,?_,?_,?_,?_⟩<;>omega) ⟨by omega,by omega⟩ ⟨by omega,by omega⟩ h.r1.Q (λe=>by omega) (λq k g f e m=>e ⟨by omega,λ_=>?_⟩) ⟨λe=>?_,λe=>?_,λ_=>⟨λ_=>rfl,λ_=>?_⟩,λe=>?_⟩ (λe=>by omega) (λq g e=>?_);have t:(q:Int)<x.I+1\/((q:Int)=x.I+1/\(k:Int)<0):=m.2 rfl;by_cases v:q=i
 ·grind[dY]
 left;omega;grind[dY];grind[dY];show(0:Int)<=_;omega;grind[dY];grind[dY]
def b3c(x:Hp)(i:Nat):Bool:=((x.c i).st == 1) && (((x.c i).U == 1) || ((x.c i).U == 2))
theorem b7u:b3c x i=true↔(x.c i).st=1/\cK (x.c i):=by simp[b3c,cK]
def b0g(x:Hp)(k:Nat):List Int:=zW (b3c x) a6u k
structure Rw1(w:World)(base:Nat)(v:Value)(M:List Int):Prop where
 own:w.ownsRow base 3 1 v M.length (M.map iv)
theorem Rw1.ext(h:Rw1 w base v M)(e:Ext w w'):Rw1 w' base v M:=⟨uN h.own (λk a=>e.block k (h.own.lt k a).2)⟩
theorem Rw1.cell(h:Rw1 w base (sS g n cap) M)(i:Nat)(a:i<M.length):w.cell? (aA g i)=some (iv (it M i))/\w.frozen? (aA g i)=false/\n=M.length:=by
 obtain⟨h0,_⟩|⟨g',cap',cur,h0,hb,hg,hr⟩:=h.own.2
 cases h0
 cases h0;have:=nK (w:=w) (base:=base) (e:=3) (size:=1) (g:=g) (n:=M.length) (cap:=cap) (xs:=M.map iv) h.own i (by omega);exact⟨by rw[this];simp[it,a],nF (w:=w) (base:=base) (e:=3) (size:=1) (g:=g) (n:=M.length) (cap:=cap) (xs:=M.map iv) h.own i,rfl⟩
theorem Rw1.base_le(h:Rw1 w base (sS g n cap) M):base<=g/\g<w.heap.size:=h.own.lt g rfl
theorem Rw1.swap(h:Rw1 w base (sS g n cap) M)(i j:Nat):
  Rw1 ((w.setCell (aA g i) (iv (it M j))).setCell (aA g j) (iv (it M i))) base (sS g n cap) (swp M i j):=by
 have b:n=M.length:=by
  obtain⟨h0,_⟩|⟨g',cap',cur,h0,_⟩:=h.own.2
  cases h0
  cases h0;rfl
 subst b;have⟨a,_⟩:=World.ownsRow.stored h.own i (iv (it M j));have⟨c,_⟩:=World.ownsRow.stored a j (iv (it M i));refine⟨?_⟩;rw[a1x];unfold swp;rw[List.map_set,List.map_set];exact c
theorem Rw1.ext_of{w2 W:World}{z:Int}{o:Obj}(h:Rw1 w base v M)(j:W=w.alloc o)(b:w2.ownsRow base 3 1 (sS g (M.length+1) cap) (M.length+1) (M.map iv++[iv z]))(c:W.grownBy w2 v.ownBlock)(f:Ext a w)(m:a.heap.size<=base):
  Rw1 w2 base (sS g (M.length+1) cap) (M++[z])/\Ext a w2/\w.heap.size<=w2.heap.size:=by
 subst j;have l:w.heap.size+1<=w2.heap.size:=by have:=c.size;simpa using this
 refine⟨⟨by simpa using b⟩,?_,by omega⟩;refine mO f ⟨c.os,c.tape,c.output,by omega,λk i=>?_⟩;have d:k<w.heap.size:=kF i f.size;rw[c.block k (by simp;omega) (λe=>by have:=(h.own.lt k e.symm).1;omega),ky _ o k d]
def dD(x:Hp)(i:Nat):Hp:={ x with A:=if (x.c i).st=2 then x.A.set i Cl0 else x.A,I:=(i:Int) }
def tU(x:Hp)(i:Nat):Hp:=if i+1=x.A.length/\(x.c i).st=0 then { x with A:=x.A.take i } else x
def dL(x:Hp):Hp:=if x.I=0 then { x with E:=0,I:=0,sub:=0,Q:=if x.Q<1000000000 then x.Q+1 else x.Q } else tU (dD x (x.I-1).toNat) (x.I-1).toNat
theorem Snd.noword(h:Snd x)(n:x.E=6):(∀i (b:i<x.B.length),eC x x.B[i])/\∀i k,i<x.A.length->k<(x.c i).F.length->eC x ((x.c i).p k).key/\eC x ((x.c i).p k).val:=by
 refine⟨λi b=>h.good_reg i b,λi k b l=>?_⟩;have r:=((h.r4.2 i b).2 k l).2 (λd=>by have:=d.1;omega);have a:cN x i k:=⟨by omega,λm=>by omega⟩;have j:∀y,hE x y (¬cN x i k)->eC x y:=λy g e=>by
  obtain⟨_,h2⟩|⟨h1,_⟩:=g.2 e;exact(h2 a).elim;refine⟨?_,h1⟩;obtain f|f|f:=g.1 <;> omega
 exact⟨j _ r.1,j _ r.2⟩
theorem Snd.shut(h:Snd x)(F:x.E=6)(i:Nat)(Y:x.I=(i:Int)+1):Snd (dD x i):=by
 have z:=h.r1.I;have T:i<x.A.length:=by omega
 have⟨U,N⟩:=h.noword F;have⟨y,k⟩:=obE (dD x i:Hp);have w:∀q,y.c q=if q=i/\(x.c i).st=2 then Cl0 else x.c q:=λq=>by grind[Hp.c,Cl0,dD,uQ.A,tJ.set,Snd.I,Hp.c_set]
 have l:y.A.length=x.A.length:=by rw[k];unfold dD;split <;> simp
 have R:dH y.A=dH x.A:=by grind[dH,uQ.A,dD,a3m,Hp.c_eq,cL,Cl0]
 have A:y.E=6:=k▸F;have J:y.I=(i:Int):=by rw[k];rfl
 have I:y.sub=x.sub:=by rw[k];rfl
 have E:y.B=x.B:=by rw[k];rfl
 have B:y.D=[]:=by rw[k];exact h.nogray (λe=>by obtain e|e:=e <;> omega)
 have y1:y.M=x.M/\y.K=x.K/\y.born=x.born/\y.per=x.per/\y.V=x.V/\y.Q=x.Q/\y.S=x.S:=k▸⟨rfl,rfl,rfl,rfl,rfl,rfl,rfl⟩;rw[<-k];have t:∀q,(x.c q).st=1->y.c q=x.c q:=λq e=>by grind[Hp.c,dD]
 have K:∀q,¬uW y q:=λq d=>by have:=d.1;omega
 have qH:∀u m H,eC x u->hE x u m->hE y u H:=λu m H S V=>by grind[eC,hE,dD]
 have C:∀q,0<(y.c q).F.length->y.c q=x.c q:=λq f=>by grind[Hp.c,Cl0,dD]
 have r:=h.r1;refine⟨⟨y1.1▸r.M,E▸r.B,by rw[l,y1.1];exact r.A,by rw[B];simp,y1.2.2.1▸r.born,y1.2.2.2.2.2.1▸r.Q,y1.2.2.2.2.2.2▸r.S,y1.2.2.2.1▸r.per,y1.2.2.2.2.1▸r.V,by rw[A];omega,by rw[J,l];omega,I▸r.sub⟩,⟨λq f=>?_,λq f o j p z=>?_⟩,⟨by rw[y1.2.1,R];exact h.r3.1,by rw[y1.2.1,y1.1];exact h.r3.2⟩,⟨λq f=>?_,λq f=>⟨λe=>K q e.1,λj p=>⟨λd=>(K q d).elim,λ_=>by rw[l]at f;have e:=C q (by omega);rw[e]at p ⊢;have G:=((h.r4.2 q f).2 j p).2 (λd=>by have:=d.1;omega);exact⟨qH _ _ _ (N q j f p).1 G.1,qH _ _ _ (N q j f p).2 G.2⟩⟩⟩⟩,⟨λ_=>by rw[B];rfl,λq f=>?_,λg s=>by rw[B]at s;cases s⟩,by unfold R6;rw[A,I];exact⟨λe=>by omega,λe=>by omega,λe=>by omega,λ_=>h.r6.2.2.2 (by omega)⟩,λe=>?_,λq f e=>?_⟩;rw[l]at f;unfold cZ;rw[w];split
 ·exact .inl ⟨rfl,⟨rfl,rfl,rfl,rfl,rfl,rfl⟩,rfl⟩
 obtain a|⟨a,b⟩|⟨a,b⟩:=h.r2.1 q f
 ·exact .inl a
 exact .inr (.inl ⟨a,b.1,by rw[A];omega,b.2.2.1,b.2.2.2.1,t _ b.2.2.2.2.1▸b.2.2.2.2.1,λe=>by rw[A]at e;omega⟩);exact .inr (.inr ⟨a,b.1,b.2.1,b.2.2.1,y1.2.2.1▸b.2.2.2.1,b.2.2.2.2⟩);rw[l]at f;have L:y.c q=x.c q:=by
  rw[w]at o ⊢;split;rename_i e;rw[if_pos e]at o;exact(o rfl).elim;rfl
 have P:y.c j=x.c j:=by
  have D:=z.1;rw[w j]at D ⊢;split;rename_i e;rw[if_pos e]at D;exact(o D.symm).elim;rfl
 rw[L,P]at z;rw[L]at o;exact h.r2.2 q f o j p z;have v:q<x.B.length:=E▸f;have n:y.B[q]=x.B[q]:=by simp[E]
 rw[n];exact qH _ _ _ (U q v) (h.r4.1 q v);rw[l]at f;have c:=h.cols ⟨by omega,by omega,by omega⟩ q f;have M:(y.c q).J≠1/\(y.c q).J≠2:=by grind[Hp.c,Cl0,dD]
 exact⟨λe=>(M.1 e).elim,λ_=>by rw[B];simp[cnt],λe=>(M.2 e).elim⟩;exfalso;obtain e|e:=e <;> omega
 rw[l]at f;have n:=e.2.2;have Q:=e.2.1;rw[J]at Q;rw[w]at n;split at n
 ·simp[Cl0]at n
 rename_i X;by_cases W:q=i
 ·grind[dD]
 exact h.r8 q f ⟨F,by omega,n⟩
theorem Snd.drop(h:Snd x)(N:x.E=6)(i:Nat)(W:x.I=(i:Int)):Snd (tU x i):=by
 unfold tU;split;rotate_left;exact h;rename_i P;have⟨A,U⟩:=P;have⟨V,M⟩:=h.noword N;have⟨y,n⟩:=obE ({ x with A:=x.A.take i }:Hp);have p:y.A.length=i:=by rw[n];simp;omega
 have o:∀q,q<i->y.c q=x.c q:=λq l=>by grind[Hp.c,tU]
 have S:dH y.A=dH x.A:=by
  have e:=a5m x.A i (by omega);rw[show i+1=x.A.length from A,kz,Hp.c_eq x i (by omega)]at e;have:cL (x.c i)=0:=by unfold cL;rw[if_neg (by omega)]
  rw[n];show dH (x.A.take i)=_;omega
 have C:y.E=6:=n▸N;have R:y.I=(i:Int):=n▸W;have J:y.sub=x.sub:=by rw[n]
 have G:y.B=x.B:=by rw[n]
 have E:y.D=[]:=by rw[n];exact h.nogray (λe=>by obtain e|e:=e <;> omega)
 have y1:y.M=x.M/\y.K=x.K/\y.born=x.born/\y.per=x.per/\y.V=x.V/\y.Q=x.Q/\y.S=x.S:=n▸⟨rfl,rfl,rfl,rfl,rfl,rfl,rfl⟩;rw[<-n];have F:∀q,¬uW y q:=λq d=>by have:=d.1;omega
 have qH:∀u m I,eC x u->hE x u m->hE y u I:=λu m I z Q=>by
  have t:u.k=2->u.a.toNat<i:=λB=>by
   have:=z B;have:u.a.toNat≠i:=λe=>by rw[e]at this;omega
   omega
  refine⟨?_,λB=>.inr ⟨by rw[o _ (t B)];exact(z B).2,F _⟩⟩;rw[p];obtain f|f|f:=Q.1
  ·exact .inl f
  exact .inr (.inl f);refine .inr (.inr ⟨f.1,f.2.1,f.2.2.1,?_⟩);have:=t f.1;omega
 have r:=h.r1;refine⟨⟨y1.1▸r.M,G▸r.B,by rw[p,y1.1];have:=r.A;omega,by rw[E];simp,y1.2.2.1▸r.born,y1.2.2.2.2.2.1▸r.Q,y1.2.2.2.2.2.2▸r.S,y1.2.2.2.1▸r.per,y1.2.2.2.2.1▸r.V,by rw[C];omega,by rw[R,p];omega,J▸r.sub⟩,⟨λq l=>?_,λq l L j s K=>by rw[p]at l;rw[o q l,o j (by omega)]at K;rw[o q l]at L;exact h.r2.2 q (by omega) L j s K⟩,⟨by rw[y1.2.1,S];exact h.r3.1,by rw[y1.2.1,y1.1];exact h.r3.2⟩,⟨λq l=>?_,λq l=>⟨λe=>F q e.1,λj s=>⟨λd=>(F q d).elim,λ_=>by rw[p]at l;rw[o q l]at s ⊢;have H:=((h.r4.2 q (by omega)).2 j s).2 (λd=>by have:=d.1;omega);exact⟨qH _ _ _ (M q j (by omega) s).1 H.1,qH _ _ _ (M q j (by omega) s).2 H.2⟩⟩⟩⟩,⟨λ_=>by rw[E];rfl,λq l=>by grind[Hp.c,Snd.cols,a0n,cnt,tU],λg v=>by rw[E]at v;cases v⟩,by unfold R6;rw[C,J];exact⟨λe=>by omega,λe=>by omega,λe=>by omega,λ_=>h.r6.2.2.2 (by omega)⟩,λe=>?_,λq l e=>by grind[tU]⟩;rw[p]at l;unfold cZ;rw[o q l];obtain a|⟨a,b⟩|⟨a,b⟩:=h.r2.1 q (by omega)
 ·exact .inl a
 have D:(x.c q).to.toNat<i:=by have:=b.2.2.1;have:=b.2.2.2.1;omega
 exact .inr (.inl ⟨a,b.1,by rw[C];omega,b.2.2.1,b.2.2.2.1,o _ D▸b.2.2.2.2.1,λe=>by rw[C]at e;omega⟩);exact .inr (.inr ⟨a,b.1,b.2.1,b.2.2.1,y1.2.2.1▸b.2.2.2.1,b.2.2.2.2⟩);have w:q<x.B.length:=G▸l;have T:y.B[q]=x.B[q]:=by simp[G]
 rw[T];exact qH _ _ _ (V q w) (h.r4.1 q w);exfalso;obtain e|e:=e <;> omega
theorem Snd.u6(h:Snd x)(a:x.E=6):Snd (dL x):=by
 have d:=h.r1.I;unfold dL;split;rename_i f;refine h.turned ⟨by omega,by omega,by omega⟩ 0 0 0 _ (by refine⟨?_,?_,?_,?_,?_⟩<;>omega) ⟨by omega,by omega⟩ ⟨by omega,by omega⟩ (by have:=h.r1.Q;split <;> omega) (λ_ i b e=>h.r8 i b ⟨a,by omega,e⟩) (λi k _ _ e=>(e ⟨by omega,λg=>by omega⟩).elim) ⟨λ_=>⟨rfl,rfl⟩,λe=>?_,λe=>?_,λe=>?_⟩ (λe=>by omega) (λi b e=>?_)
 ·grind[dL]
 grind[dL];grind[dL];grind[dL];rename_i c;have e:x.I=(((x.I-1).toNat:Nat):Int)+1:=by omega
 exact (h.shut a _ e).drop a _ rfl
def dN(x:Hp):Hp:=if x.E=1 then dW x else if x.E=2 then dX x else if x.E=3 then dZ x else if x.E=4 then unit4 x else if x.E=5 then dY x else if x.E=6 then dL x else x
theorem Snd.unit(h:Snd x):Snd (dN x):=by grind[dN,Snd.u1,Snd.u2,Snd.u3,Snd.u4,Snd.u5,Snd.u6]
theorem c1q(x:Hp)(b:Nat)(w:World){ar:Option Addr}{kr:Nat}{ac:Option Addr}{kc:Nat}{ag:Option Addr}{kg:Nat}(h:HAt w b x ar kr ac kc ag kg)(ay:x.A.length<=8000):
  Calls prog 207 #[pP b] w λe w'=>∃v M,Hid (e=.returned v)/\Rw1 w' w.heap.size v M/\M.Perm (b0g x x.A.length)/\Ext w w':=by
 obtain⟨i0,U,S,aa,ab⟩:=info_parts c1p;have R:=h.c4;have HH:=uU h;clear h;go_in;go_wp21;go_loopw [3,14] (λv i wr=>∃(k:Nat)(M:List Int),k<=x.A.length/\i=iv k/\Rw1 wr w.heap.size v M/\Hid (M.Perm (b0g x k))/\Ext w wr) (λ_ i _=>x.A.length-(intOf i).toNat)
 case atStart=>exact⟨0,[],kB _,rfl,⟨ks _ _ _ _⟩,m9 _,hO _⟩
 case round=>
  clear R;obtain⟨k,M,y,rfl,a,m,d⟩:=hrel;by_cases ae:k<x.A.length
  ·have r:=HH.ext d;obtain⟨b',o,ap,kp,rfl,p0,p1,p2,p3,p4,p5,p6,p7,lp,P⟩:=r.cell k ae;have f:=uU a;have ax:=i0N k;have aw:(k:Int)<(x.A.length:Int):=by omega
   have K:=d.alloc (oCl (x.c k) (.slice ap (x.c k).F.length kp));clear P r a;have am:M.length<=k:=by have:=m.length_eq;have:=a2u (b3c x) a6u k;unfold b0g at *;omega
   have go_no:b3c x k=false->Hid (M.Perm (b0g x (k+1))):=λq=>by
    have:=uH m;unfold b0g at *;rw[a2t _ _ _ q];exact this
   have GN:=uU go_no;clear go_no;go_upto_region 5 with fail;go_cut [31] from 19 to 30 (λv W=>∃u:Bool,v=.bool u/\Hid (b3c x k= !u)/\W=wr.alloc (oCl (x.c k) (.slice ap (x.c k).F.length kp)))
   case first=>cases Q:((x.c k).st != 1) <;> cases t2:((x.c k).U != 1) <;> cases t3:((x.c k).U != 2) <;> (go_wp21;go_meet;exact⟨_,rfl,by simp at Q t2 t3;show _=_;simp[b3c,Q,t2,t3],rfl⟩)
   case rest=>
   obtain⟨u,rfl,QW,rfl⟩:=hcut;cases u;rotate_left
   ·have P2:=uH GN QW;go_wp21;go_roundw
    case rel=>exact⟨k+1,M,by omega,by go_num,f.ext (eAl wr _),P2,K⟩
    simp[intOf];omega
   go_wp2_with (at_builtin;refine wpList_append_lies _ rfl _ _ 25 rfl w.heap.size 3 i0 (iv 0) 1 8 underlying25 U S aa ab rfl (by decide) _ M.length (M.map iv) rfl ((f.own.alloc _).alloc _) _ 1 1 [iv k] rfl rfl ?c1 ?c2 (by decide) ?c3 ?R ?c5 _ rfl ?_)
   case c1=>
    intro q u y;match q,y with
    | 0,y=>simp at y;subst y;simp[Addr.add,go_sem]
   case c2=>intro u hu;simp at hu;subst hu;rfl
   case c3=>unfold maxLen;omega
   case R=>omega
   case c5=>have:=d.size;simp;omega
   intro g C w2 n l E X;obtain⟨R1,L,S1⟩:=Rw1.ext_of (f.ext (eAl wr _)) rfl n l K (hT _);have Y:=uU (show(M++[(k:Int)]).Perm (b0g x (k+1)) by
    have:=uH m;unfold b0g at *;rw[a3w _ _ _ (uH QW)];exact this.append_right _)
   have T:=uU R1;clear R1 n l E p0 p1 p2 p3 p4 p5 p6 p7 K S1 f m GN;go_wp21;go_loopw [6] (λI wi=>∃(j:Nat)(N:List Int),j<N.length/\I=iv j/\N.length=M.length+1/\Rw1 wi w.heap.size (sS g (M.length+1) C) N/\Hid (N.Perm (b0g x (k+1)))/\Ext w wi) (λI _=>(intOf I).toNat)
   case atStart=>exact⟨M.length,M++[(k:Int)],by simp,by go_num,by simp,T,Y,L⟩
   case round=>
    clear T Y L d;obtain⟨j,N,W,rfl,t,a,m,d⟩:=hrel;have f:=uU a;have r:=HH.ext d;have d4:=r.c4;cases j with
    | zero=>
     clear a r;go_wp21;go_quiet (fail);go_wp21;go_roundw
     case rel=>exact⟨k+1,N,by omega,by go_num,(by have q:=uH f;rw[<-t]at q ⊢;exact q.ext ((hO _).drewN _)),m,d.drewN _⟩
     simp[intOf];omega
    | succ j=>
     obtain⟨a1,a2,a3⟩:=a.cell j (by omega);obtain⟨b1,b2,b3⟩:=a.cell (j+1) (by omega);have p:∀z,z∈N->∃q:Nat,z=(q:Int)/\q<x.A.length:=λz hz=>by
      obtain⟨q,hq,_,e⟩:=(a1m _ _ _ _).1 (m.mem_iff.1 hz);exact⟨q,e.symm,by omega⟩
     obtain⟨A,G,H⟩:=p _ (a3u N j (by omega));obtain⟨B,D,J⟩:=p _ (a3u N (j+1) W);obtain⟨au,o1,ad,ah,e1,O⟩:=r.cell A H;cases e1;obtain⟨ak,o2,af,av,e2,CB⟩:=r.cell B J;cases e2;have pa:=O.p4;have pb:=CB.p4;have V:=uU (a.swap j (j+1));rw[G,D]at V;have s:=a.base_le;have F:=uU ((a9v N j (j+1) (by omega) W).trans m);rw[G]at a1;rw[D]at b1;have j0:=i0N j;have j1:(j:Int)<(M.length:Int)+1:=by omega
     have j2:(j:Int)+1<(M.length:Int)+1:=by omega
     have j3:(0:Int)<=(j:Int)+1:=by omega
     have j4:((j:Int)+1).toNat=j+1:=by omega
     have j5:(0:Int)<(j:Int)+1:=by omega
     have q0:=i0N A;have q1:(A:Int)<(x.A.length:Int):=by omega
     have q2:=i0N B;have q3:(B:Int)<(x.A.length:Int):=by omega
     have ai:M.length<=8000:=by omega
     clear a r O CB p a3 b3 G D;cases Z:decide ((x.c B).born<(x.c A).born)
     ·go_wp21;go_quiet (fail);go_wp21;go_roundw
      case rel=>exact⟨k+1,N,by omega,by go_num,(by have q:=uH f;rw[<-t]at q ⊢;exact q.ext ((hO _).drewN _)),m,d.drewN _⟩
      simp[intOf];omega
     have aj:=of_decide_eq_true Z;clear Z;go_wp21;go_quiet (fail);go_wp21;go_roundw
     case rel=>exact⟨j,swp N j (j+1),by rw[a1x];omega,by go_num,by rw[a1x];omega,⟨uN V.own (λq _=>rfl)⟩,F,((d.drewN _).setCell s.1 _).setCell s.1 _⟩
     simp[intOf]
  have aq:k=x.A.length:=by omega
  subst aq;have f:=uU a;clear a;go_wp21;go_ret;exact⟨_,M,rfl,f,m,d⟩
theorem Sn.V(w:World)(n:Nat)(t:TypeId):Sn (w.alloc (.cells (madeCells #[.bool false] n) t)) w.heap.size w.heap.size n (.slice none 0 0) []:=by
 have e:(w.alloc (.cells (madeCells #[.bool false] n) t)).heap[w.heap.size]?=some (.cells (madeCells #[.bool false] n) t):=heap_alloc_new w _;refine⟨⟨hT _,by simp⟩,λi a=>?_,λi a=>(a7y w _ n t i a).2,ks _ _ _ _,by simp[Value.ownBlock],List.nodup_nil,λz b=>by cases b⟩;rw[cell_of_row _ w.heap.size i _ _ (0,0) e,<-nj,toList_madeCells_one];simp[a]
def b0i(x:Hp)(L:List Int):Prop:=∀z,z∈L->∃i:Nat,z=(i:Int)/\cU x i
def a4d(x:Hp)(k:Nat)(L:List Int):Prop:=∀j (h:j<x.B.length),j<k->x.B[j].k=2->(tgt x x.B[j]:Int)∈L
def c7f(M:List Int)(k:Nat)(L:List Int):Prop:=∀j,j<k->it M j∈L
def a3j(x:Hp)(j k:Nat)(L:List Int):Prop:=∀p,p<k->(((x.c j).p p).key.k=2->(tgt x ((x.c j).p p).key:Int)∈L)/\(((x.c j).p p).val.k=2->(tgt x ((x.c j).p p).val:Int)∈L)
def b0j(x:Hp)(i:Nat)(L:List Int):Prop:=∀q,q<i->a3j x (it L q).toNat (x.c (it L q).toNat).F.length L
theorem b0i.add{y:Wd}(h:b0i x L)(a:Add x y L L')(b:y.k=2->cU x (tgt x y)):b0i x L':=by grind[b0i,Sn.add,Add,cU,tgt,Add.new]
theorem b1v{R:List Int}{q:Nat}(h:q<L.length):it (L++R) q=it L q:=by grind[it]
theorem a3j.mono(h:a3j x j k L)(s:∀z,z∈L->z∈L'):a3j x j k L':=by grind[a3j,Cl.p]
theorem b0j.add{y:Wd}(h:b0j x i L)(a:Add x y L L')(g:i<=L.length):b0j x i L':=λq c=>by
 have⟨R,e⟩:=a.pre;have f:∀z,z∈L->z∈L':=λz b=>a.sub b
 have d:it L' q=it L q:=e▸b1v (by omega);rw[d];exact(h q c).mono f
def WIn(x:Hp)(L:List Int):Prop:=∀i,i<x.A.length->(x.c i).st=1->cK (x.c i)->(i:Int)∈L
structure b1w(x:Hp)(i:Nat)(L:List Int):Prop where
 o:b0i x L
 r:a4d x x.B.length L
 w:WIn x L
 c:b0j x i L
theorem b1w.add{y:Wd}(h:b1w x i L)(a:Add x y L L')(l:i<=L.length)(m:y.k=2->cU x (tgt x y)):b1w x i L':=
 ⟨h.o.add a m,λj b f e=>a.sub (h.r j b f e),λj b d g=>a.sub (h.w j b d g),h.c.add a l⟩
theorem b1w.done(h:b1w x L.length L):∀i:Nat,(i:Int)∈L↔cU x i:=
 c5j h.o (λk a e=>h.r k a a e) h.w (λj f=>by
  have⟨q,b,e⟩:=mJ f;have:=h.c q b;rw[<-b2s L q b,e]at this;have d:a3j x j (x.c j).F.length L:=by simpa using this
  exact d)
theorem b1w.step(h:b1w x i L)(e:it L i=(j:Int))(a:a3j x j (x.c j).F.length L):b1w x (i+1) L:=
 ⟨h.o,h.r,h.w,λq b=>by
  by_cases k:q=i;rw[k,e];simpa using a;exact h.c q (by omega)⟩
theorem Rw1.form(h:Rw1 w base v M):∃ad cap,v=.slice ad M.length cap/\(0<M.length->∃g,ad=some (aA g 0)):=by
 obtain⟨h1,h2⟩|⟨g,cap,cur,h1,_⟩:=h.own.2;grind;grind
theorem Rw1.mfr(h:Rw1 w base vw M)(q:Mfr bs v v' w w')(b:vw.ownBlock≠some bs)(c:∀k,vw.ownBlock=some k->v.ownBlock≠some k):Rw1 w' base vw M:=
 ⟨uN h.own (λk a=>q.block k (h.own.lt k a).2 (λe=>b (e ▸ a)) (c k a))⟩
theorem c8v(h:Rw1 w base vw M)(q:Mfr bs v v' w w')(c:∀k,vw.ownBlock=some k->v.ownBlock≠some k):∀k,vw.ownBlock=some k->v'.ownBlock≠some k:=λk a=>by
 obtain e|⟨g,e,b⟩:=q.own;grind;rw[e];intro f;cases f;have:=(h.own.lt k a).2;omega
theorem Sn.mext(h:Sn w a.heap.size bs n v L)(q:Mfr bs v v' w w')(e:Ext a w):Ext a w':=q.ext e h.hb.1 (λk b=>(h.own.lt k b).1)
theorem Sn.form(h:Sn w base bs n v L):∃ad cap,v=.slice ad L.length cap/\(0<L.length->∃g,ad=some (aA g 0)):=(Rw1.mk h.own).form
theorem c1r(x:Hp)(b:Nat)(w:World){ar:Option Addr}{kr:Nat}{ac:Option Addr}{kc:Nat}{ag:Option Addr}{kg:Nat}(h:HAt w b x ar kr ac kc ag kg)(r2:R2 x)(r4:R4 x)(N:x.A.length<=8000):
  Calls prog 159 #[.pointer (some ⟨b,0,none⟩)] w λe w'=>∃v L,Hid (e=.returned (.tuple #[.slice (some ⟨w.heap.size,0,none⟩) x.A.length x.A.length,v]))/\Sn w' w.heap.size w.heap.size x.A.length v L/\Hid (∀i:Nat,(i:Int)∈L↔cU x i)/\Ext w w':=by
 have c4:=h.c4;have c3:=h.c3;have lr:=h.lr;have hb:=cLt c4;have Z:=uU h;clear h;obtain⟨z,ba,hz⟩:=c7e x.A.length (by omega) w;have S0:=uU (Sn.V w x.A.length 4);rw[<-hz]at S0;clear hz;go_in;go_wp21;go_loopw [5,24] (λv i wr=>∃(k:Nat)(L:List Int),k<=x.B.length/\i=.int .i64 k/\Sn wr w.heap.size w.heap.size x.A.length v L/\Hid (b0i x L/\a4d x k L)/\Ext w wr) (λ_ i _=>x.B.length-(intOf i).toNat)
 case atStart=>exact⟨0,[],kB _,rfl,S0,⟨(λz hz=>by cases hz),λj _ O=>by omega⟩,(hO w).alloc _⟩
 case round=>
  clear S0 ba c4 c3;obtain⟨k,L,hk,rfl,A,d,l⟩:=hrel;have y:=uU A;clear A;by_cases t:k<x.B.length
  ·have hh:=Z.ext l;have⟨b',o,e1,p0,p1,p2⟩:=hh.R k t;have d3:=hh.c3;rw[e1]at d3;have bd:=i0N k;have az:(k:Int)<(x.B.length:Int):=by omega
   have E:=(hO wr).alloc (.cells #[iv x.B[k].k,iv x.B[k].n,iv x.B[k].a] 86);subst e1;clear hh;go_wp21;refine(a0z x x.B[k] b w.heap.size w.heap.size _ L _ (Z.ext (l.trans E)) (b0h r2 r4 k t) (y.ext E) (l.trans E).size N).mono ?_;rintro e w2 ⟨v',Q,rfl,G,S,hm⟩;have R:=uU (show Sn w2 w.heap.size w.heap.size x.A.length v' Q/\(b0i x Q/\a4d x (k+1) Q)/\Ext w w2 from
    ⟨G,⟨d.1.add S (λe=>cU.reg k t e),λj O am e=>by
     by_cases q:j=k;subst q;exact S.has e;exact S.sub (d.2 j O (by omega) e)⟩,(y.ext E).mext hm (l.trans E)⟩)
   clear G S hm E;go_wp21;go_roundw
   case rel=>exact⟨k+1,Q,by omega,by go_num,R.1,R.2.1,R.2.2⟩
   simp[intOf];omega
  have bc:k=x.B.length:=by omega
  subst bc;go_wp21;refine(c1q x b _ (Z.ext l) N).mono ?_;rintro e w3 ⟨vw,M,rfl,s,U,hq⟩;have ao:=l.trans hq;have⟨BW,aw⟩:∃n,n=wr.heap.size:=⟨_,rfl⟩;rw[<-aw]at s;obtain⟨H,m,rfl,al⟩:=s.form;have bn:M.length<=8000:=by have:=U.length_eq;have:=a2u (b3c x) a6u x.A.length;unfold b0g at *;omega
  have WM:=uU (show ∀j,j<M.length->∃q:Nat,it M j=(q:Int)/\q<x.A.length/\(x.c q).st=1/\cK (x.c q) from λj O=>by
   obtain⟨q,I,B,e⟩:=(a1m _ _ _ _).1 (U.mem_iff.1 (a3u M j O));exact⟨q,e.symm,I,b7u.1 B⟩)
  have WA:=uU (show ∀i,i<x.A.length->(x.c i).st=1->cK (x.c i)->(i:Int)∈M from λi hi h1 h2=>U.mem_iff.2 ((a1m _ _ _ _).2 ⟨i,hi,b7u.2 ⟨h1,h2⟩,rfl⟩));have S3:=uU (y.ext hq);have AP:∀q,(Value.slice H M.length m).ownBlock=some q->¬(Value.ownBlock (Value.slice H M.length m)=some w.heap.size):=λq _ e=>by
   have:=(s.own.lt _ e).1;have:=y.hb.2;omega
  have ah:=λq e=>(λq (e:(Value.slice H M.length m).ownBlock=some q)=>(show ∀u:Value,Sn wr w.heap.size w.heap.size x.A.length u L->u.ownBlock≠some q from λu hu f=>by
   have:=(hu.own.lt q f).2;have:=(s.own.lt q e).1;omega)) q e _ y;have RW:=uU s;have HI:=uH d;clear s U hq t hk d y aw;go_wp21;go_loopw [5,37] (λv i wx=>∃(k:Nat)(K:List Int),k<=M.length/\i=.int .i64 k/\Sn wx w.heap.size w.heap.size x.A.length v K/\Rw1 wx BW (.slice H M.length m) M/\Hid (∀q,(Value.slice H M.length m).ownBlock=some q->v.ownBlock≠some q)/\Hid (b0i x K/\a4d x x.B.length K/\c7f M k K)/\Ext w wx) (λ_ i _=>M.length-(intOf i).toNat)
  case atStart=>exact⟨0,L,kB _,rfl,S3,RW,ah,⟨HI.1,HI.2,λj O=>by omega⟩,ao⟩
  case round=>
   clear S3 RW ah HI l ao;obtain⟨k,K,hk,rfl,A,s,aa,d,l⟩:=hrel;have y:=uU A;have RW:=uU s;by_cases t:k<M.length
   ·obtain⟨g,rfl⟩:=al (by omega);have⟨a1,a2,a3⟩:=s.cell k t;have⟨q,eq,I,B,ae⟩:=uH WM k t;rw[eq]at a1;have EQ:=uU eq;have bd:=i0N k;have az:(k:Int)<(M.length:Int):=by omega
    have et:tgt x ⟨2,0,(q:Int)⟩=q:=by unfold tgt a2m;simp[B]
    have MY:a0m x ⟨2,0,(q:Int)⟩:=λ_=>⟨rfl,by simp,by simpa using I,(λh=>by simp[B]at h),by rw[et];exact b1u r4 q I B ae⟩
    have ay:=uU MY;have RQ:=uU (show cU x (tgt x ⟨2,0,(q:Int)⟩) by rw[et];exact cU.U q I B ae);have ET:=uU et;clear A s a3 eq et MY B ae;go_wp21;refine(a0z x ⟨2,0,(q:Int)⟩ b w.heap.size w.heap.size _ K _ (Z.ext l) ay y l.size N).mono ?_;rintro e w2 ⟨v',Q,rfl,G,S,hm⟩;have R:=uU (show Sn w2 w.heap.size w.heap.size x.A.length v' Q/\Rw1 w2 BW (.slice (some ⟨g,0,none⟩) M.length m) M/\(∀q,(Value.slice (some ⟨g,0,none⟩) M.length m).ownBlock=some q->v'.ownBlock≠some q)/\(b0i x Q/\a4d x x.B.length Q/\c7f M (k+1) Q)/\Ext w w2 from
     ⟨G,RW.mfr hm (show(Value.slice (some ⟨g,0,none⟩) M.length m).ownBlock≠some w.heap.size from λe=>uH AP _ rfl e) aa,c8v RW hm aa,⟨d.1.add S (λ_=>uH RQ),λj O am e=>S.sub (d.2.1 j O am e),λj O=>by
      by_cases q2:j=k;rw[q2,uH EQ];have:=S.has rfl;rw[uH ET]at this;exact this;exact S.sub (d.2.2 j (by omega))⟩,y.mext hm l⟩)
    clear G S hm;go_wp21;go_roundw
    case rel=>exact⟨k+1,Q,by omega,by go_num,R.1,R.2.1,R.2.2.1,R.2.2.2.1,R.2.2.2.2⟩
    simp[intOf];omega
   have G0:b1w x 0 K:=⟨d.1,d.2.1,λi hi h1 h2=>by
    have⟨j,O,e⟩:=mJ (WA i hi h1 h2);rw[b2s M j O]at e;rw[<-e];exact d.2.2 j (by omega),λq hq=>by omega⟩
   clear A s RW aa d WM WA AP al;go_wp21;go_loopw [5,10] (λv i wy=>∃(c:Nat)(J:List Int),c<=J.length/\i=.int .i64 c/\Sn wy w.heap.size w.heap.size x.A.length v J/\Hid (b1w x c J)/\Ext w wy) (λ_ i _=>x.A.length-(intOf i).toNat)
   case atStart=>exact⟨0,K,kB _,rfl,y,G0,l⟩
   case round=>
    clear G0 y l;obtain⟨c,J,hc,rfl,A,X,l⟩:=hrel;have y:=uU A;obtain⟨ad,bg,rfl,ax⟩:=A.form;have bi:=A.len;by_cases t:c<J.length
    ·obtain⟨g,rfl⟩:=ax (by omega);have⟨a1,a2,a3⟩:=(Rw1.mk A.own).cell c t;have⟨j,ej,ab⟩:=X.o _ (a3u J c t);rw[ej]at a1;have W:=ab.good r2 r4;have⟨b',o,ap,kp,e1,C⟩:=Z.cell j W.1;have d4:=(Z.ext l).c4;rw[e1]at d4;have p7:=l.keep C.p7;have lp:=C.lp;have HP:=uU C.P;have EJ:=uU ej;have GJ:=uU W;have bk:=W.1;have c0:=i0N c;have c1:(c:Int)<(J.length:Int):=by omega
     have j0:=i0N j;have j1:(j:Int)<(x.A.length:Int):=by omega
     clear A C e1 ej W a3 a2;go_wp21;go_quiet (fail);go_wp21;go_loopw [5,66] (λv i wz=>∃(p:Nat)(T:List Int),p<=(x.c j).F.length/\i=.int .i64 p/\Sn wz w.heap.size w.heap.size x.A.length v T/\Hid (b1w x c T/\it T c=(j:Int)/\c<T.length/\a3j x j p T)/\Ext w wz) (λ_ i _=>(x.c j).F.length-(intOf i).toNat)
     case atStart=>exact⟨0,J,kB _,rfl,y.ext ((hO _).drewN _),⟨X,EJ,t,λp hp=>by omega⟩,l.drewN _⟩
     case round=>
      clear y X a1 d4 p7 l;obtain⟨p,T,hp,rfl,A,d,r⟩:=hrel;have y:=uU A;have bj:=A.len;by_cases Y:p<(x.c j).F.length
      ·obtain⟨b2,o2,rfl,q0,q1,q2,q3,q4,q5⟩:=uH HP p Y;have e0:=r.keep q0;have e1:=r.keep q1;have e2:=r.keep q2;have e3:=r.keep q3;have e4:=r.keep q4;have e5:=r.keep q5;have bh:=cLt e0;clear q0 q1 q2 q3 q4 q5 A;have bf:=i0N p;have bl:(p:Int)<((x.c j).F.length:Int):=by omega
       have E:=(hO wr).alloc (oPr ((x.c j).p p));have ak:=uU (a4c r2 r4 j p GJ Y);have wW:Ext w wr:=r;go_wp21;refine(a0z x ((x.c j).p p).key b w.heap.size w.heap.size _ T _ (Z.ext (wW.trans E)) ak.1 (y.ext E) (wW.trans E).size N).mono ?_;rintro e w5 ⟨v5,T5,rfl,au,aj,V⟩;have x5:Ext w w5:=(y.ext E).mext V (wW.trans E);have be:=(y.ext E).own.lt;have u:=λ(o:Nat) (v:Value) (hc:(wr.alloc (oPr ((x.c j).p p))).cell? ⟨wr.heap.size,o,none⟩=some v)=>(kR (w':=w5) (a:=⟨wr.heap.size,o,none⟩) (V.block wr.heap.size (by simp) (by have:=y.hb.2;omega) (λf=>by have:=(y.own.lt _ f).2;omega))).trans hc
       have u3:=u 3 _ (by simp[go_sem];rfl);have u4:=u 4 _ (by simp[go_sem];rfl);have u5:=u 5 _ (by simp[go_sem];rfl);have bm:wr.heap.size<w5.heap.size:=by have:=V.size;simp at this;omega
       have A5:=uU aj;clear u V aj e0 e1 e2 e3 e4 e5 be E;go_wp21;refine(a0z x ((x.c j).p p).val b w.heap.size w.heap.size _ T5 _ (Z.ext x5) ak.2 au x5.size N).mono ?_;rintro e w6 ⟨v6,T6,rfl,ai,F,av⟩;have R:Sn w6 w.heap.size w.heap.size x.A.length v6 T6/\(b1w x c T6/\it T6 c=(j:Int)/\c<T6.length/\a3j x j (p+1) T6)/\Ext w w6:=by
        have⟨i1,i2,i3,i4⟩:=uH d;have⟨R5,r5⟩:=A5.pre;have⟨R6,r6⟩:=F.pre;have l5:T.length<=T5.length:=by rw[r5];simp
        have l6:T5.length<=T6.length:=by rw[r6];simp
        refine⟨ai,⟨(i1.add A5 (by omega) (λe=>cU.key j p ab Y e)).add F (by omega) (λe=>cU.val j p ab Y e),?_,by omega,λq hq=>?_⟩,au.mext av x5⟩;rw[r6,b1v (by omega),r5,b1v i3];exact i2;by_cases qe:q=p
        ·subst qe;exact⟨λe=>F.sub (A5.has e),λe=>F.has e⟩
        exact((i4.mono (λz hz=>F.sub (A5.sub hz))) q (by omega))
       clear ai F av;go_wp21;go_roundw
       case rel=>exact⟨p+1,T6,by omega,by go_num,R.1,R.2.1,R.2.2⟩
       simp[intOf];omega
      have af:p=(x.c j).F.length:=by omega
      have R:b1w x (c+1) T/\c+1<=T.length:=by
       have⟨i1,i2,i3,i4⟩:=uH d;rw[af]at i4;exact⟨i1.step i2 i4,i3⟩
      clear A af;go_wp21;go_roundw
      case rel=>exact⟨c+1,T,R.2,by go_num,y,R.1,r⟩
      simp[intOf];omega
    have an:c=J.length:=by omega
    have D:=uU (show ∀i:Nat,(i:Int)∈J↔cU x i by have:=uH X;rw[an]at this;exact this.done);clear A an;go_wp21;go_ret2;exact⟨_,J,rfl,y,D,l⟩
def sm(F:Cl->Nat)(cs:List Cl):Nat:=(cs.map F).sum
theorem b4y(F:Cl->Nat)(cs:List Cl)(i:Nat)(c:Cl)(b:i<cs.length):sm F (cs.set i c)+F cs[i]=sm F cs+F c:=by
 induction cs generalizing i with
 | nil=>simp at b
 | cons a cs ih=>
  cases i with
  | zero=>simp[sm];omega
  | succ i=>
   have:=ih i (by simpa using b);simp[sm]at this ⊢;omega
theorem c7b(F:Cl->Nat)(b:Nat):∀(cs:List Cl),(∀c,c∈cs->F c<=b)->sm F cs<=b*cs.length
 | [],_=>by simp[sm]
 | c::cs,h=>by
  have h1:=c7b F b cs (λd hd=>h d (by simp[hd]));have h2:=h c (by simp);simp only[sm,List.map_cons,List.sum_cons,List.length_cons,Nat.mul_add]at h1 ⊢;omega
theorem sm_drop(F:Cl->Nat)(cs:List Cl)(i:Nat)(a:i<cs.length):sm F (cs.drop i)=F cs[i]+sm F (cs.drop (i+1)):=by
 rw[nQ a];simp only[sm,List.map_cons,List.sum_cons]
theorem c1e(F:Cl->Nat)(cs:List Cl)(i k:Nat)(c:Cl)(d:i<cs.length)(h:F c=F cs[i]):sm F ((cs.set i c).drop k)=sm F (cs.drop k):=by
 have e:(cs.set i c).map F=cs.map F:=by
  refine List.ext_getElem (by simp) (λj b a=>?_);simp only[List.getElem_map,List.getElem_set];split;rename_i q;subst q;exact h;rfl
 simp only[sm,List.map_drop,e]
def D2(c:Cl):Nat:=if c.st=1/\c.J≠2 then c.F.length+2+(if c.J=0 then 1 else 0) else 0
def D4(c:Cl):Nat:=if c.st=0 then 1 else 0
def D5(c:Cl):Nat:=c.F.length+1
def part(x:Hp):Nat:=
 if x.E=2 then sm D2 x.A-x.sub.toNat else if x.E=4 then sm D4 x.A else if x.E=5 then sm D5 (x.A.drop x.I.toNat)-x.sub.toNat else if x.E=6 then x.I.toNat else ((x.A.length:Int)-x.I).toNat
def mu(x:Hp):Nat:=if x.E=0 then 0 else (6-x.E).toNat*2000000+part x+1
theorem Snd.pbound(h:Snd x):part x<2000000:=by
 have f:=h.ok.n8;have d:∀c,c∈x.A->c.F.length<=200:=λc a=>by
  have⟨i,b,e⟩:=mJ a;have:=h.ok.p200 i b;rw[<-e,Hp.c_eq x i b];exact this
 have g:=h.r1.I;unfold part;split;have:=c7b D2 203 x.A (λc a=>by have:=d c a;unfold D2;split <;> (try split) <;> omega);omega;split;have:=c7b D4 1 x.A (λc a=>by unfold D4;split <;> omega);omega;split;have:=c7b D5 201 (x.A.drop x.I.toNat) (λc a=>by have:=d c (List.mem_of_mem_drop a);unfold D5;omega);simp only[List.length_drop]at this;omega;split <;> omega
theorem Snd.mu_le(h:Snd x):mu x<=14000000:=by
 have a:=h.pbound;have:=h.r1.E;unfold mu;split <;> omega
theorem a3h(c:y.E=x.E)(b:x.E≠0)(a:part y<part x):mu y<mu x:=by grind[part,mu]
theorem b0e(s:Snd y)(b:y.E=x.E+1)(a:1<=x.E/\x.E<=5):mu y<mu x:=by grind[mu,Snd.pbound]
theorem c8n(x:Hp)(i:Nat)(d:i<x.A.length):sm D2 (uK x i).A+(uK x i).D.length=sm D2 x.A+x.D.length:=by
 unfold uK;by_cases a:eN x i=true;rw[if_pos a];have b:=(a5p a).2;have:=b4y D2 x.A i (yD (x.c i)) d;have e:D2 (yD (x.c i))=(x.c i).F.length+2:=by simp[D2,yD,b.1]
 have f:D2 (x.c i)=(x.c i).F.length+3:=by simp[D2,b.1,b.2]
 rw[Hp.c_eq x i d,e,f]at this;simp only[List.length_append,List.length_singleton];omega;rw[if_neg a]
theorem a9f(x:Hp)(y:Wd)(a:eC x y):sm D2 (uX x y).A+(uX x y).D.length=sm D2 x.A+x.D.length:=by grind[eC,sm,D2,uX,uQ.A,c8n]
theorem c1f:∀(ys:List Wd)(z:Hp),(∀y,y∈ys->eC z y)->sm D2 (ys.foldl uX z).A+(ys.foldl uX z).D.length=sm D2 z.A+z.D.length
 | [],_,_=>rfl
 | y::ys,z,h=>by
  have h1:=h y (by simp);rw[List.foldl_cons,c1f ys (uX z y) (λu hu=>(h u (by simp[hu])).keep (a0b z y).2.1 (a4x z y h1)),a9f z y h1]
theorem b4z(x:Hp)(y:Wd):x.D.length<=(uX x y).D.length:=by
 have⟨L,e⟩:=b3a x y;rw[e];simp
theorem Snd.less{x:Hp}(h:Snd x)(C:x.E≠0):mu (dN x)<mu x:=by
 have hr:=h.r1.E;have hh:=h.r1.I;have hs:=h.r1.sub;by_cases j:x.E=1;have s:=h.u1 j;rw[show dN x=dW x by unfold dN;rw[if_pos j]];unfold dW at s ⊢;split
 ·rename_i e;rw[if_pos e]at s;exact b0e s (by show(2:Int)=x.E+1;omega) ⟨by omega,by omega⟩
 grind[Snd.I,uQ.A,cC,a3h,kU,Hp.c,uK,part,mu,dN];by_cases a:x.E=2;have s:=h.u2 a;have B:=h.r6.2.1 a;have A:∀z:Hp,z.E=2->part z=sm D2 z.A-z.sub.toNat:=λz l=>by
  unfold part;rw[if_pos l]
 rw[show dN x=dX x by unfold dN;rw[if_neg j,if_pos a]];cases d:x.D with
 | cons g G=>
  have O:=B.2.2 (by rw[d];simp);have eg:x.g0=g.toNat:=by simp[Hp.g0,d]
  rw[eg]at O;have m:∃i:Nat,g=(i:Int)/\i<x.A.length/\(x.c i).st=1/\(x.c i).J=1:=by
   have n:g∈x.D:=d▸mH ..;have Q:=b1j h.r2 h.r5 g n;have X:=h.r5.2.2 g n;refine⟨g.toNat,by omega,by omega,Q.2,Q.1⟩
  obtain⟨i,rfl,k,v,I⟩:=m;have R:((i:Int)).toNat=i:=by omega
  rw[R]at O;have d2:D2 (x.c i)=(x.c i).F.length+2:=by simp[D2,v,I]
  have Y:D2 (x.c i)<=sm D2 x.A:=by
   have:=b4y D2 x.A i Cl0 k;have z0:D2 Cl0=0:=by simp[D2,Cl0]
   rw[Hp.c_eq x i k,z0]at this;omega
  unfold dX;rw[d];simp only[R];by_cases E:x.sub<(x.c i).F.length;rw[if_pos E];have K:=h.good_pair (.inr a) i x.sub.toNat k (by omega);have T:=a0b x ((x.c i).p x.sub.toNat).key;have s1:=a9f x _ K.1;have s2:=a9f _ _ (K.2.keep T.2.1 (a4x x _ K.1));have g1:=b4z x ((x.c i).p x.sub.toNat).key;have g2:=b4z (uX x ((x.c i).p x.sub.toNat).key) ((x.c i).p x.sub.toNat).val;have L:(uX (uX x ((x.c i).p x.sub.toNat).key) ((x.c i).p x.sub.toNat).val).E=x.E:=by rw[(a0b (uX x ((x.c i).p x.sub.toNat).key) ((x.c i).p x.sub.toNat).val).2.2.1,T.2.2.1]
  refine a3h L C ?_;rw[A x a,A _ (by show(uX (uX x ((x.c i).p x.sub.toNat).key) ((x.c i).p x.sub.toNat).val).E=2;rw[L];exact a)];show sm D2 (uX (uX x ((x.c i).p x.sub.toNat).key) ((x.c i).p x.sub.toNat).val).A-(x.sub+1).toNat<_;omega;grind[a3h,sm,D2,uQ.A,tJ.set,a2a,Hp.c,b4y,Hp.c_eq,mu]
 | nil=>
  have H:=(h.look a).1;unfold dX at s ⊢;rw[d]at s ⊢;simp only at s ⊢;by_cases D:(zC x).D=[];rw[if_pos D]at s ⊢;exact b0e s (by show(3:Int)=x.E+1;omega) ⟨by omega,by omega⟩;rw[if_neg D];refine a3h H.E C ?_;rw[A x a,A _ (H.E▸a),H.sub,B.2.1 (by rw[d];rfl)];have r:sm D2 (zC x).A+(zC x).D.length=sm D2 x.A+x.D.length:=c1f x.B x (λy V=>by
   obtain⟨i,k,e⟩:=mJ V;rw[<-e];exact h.good_reg i k);have:(zC x).D.length≠0:=λe=>D (mR e)
  rw[d]at r;simp only[List.length_nil]at r;simp only[Int.toNat_zero];omega
 by_cases w:x.E=3;have s:=h.u3 w;have e3:∀z:Hp,z.E=3->part z=((z.A.length:Int)-z.I).toNat:=λz l=>by grind[part,uQ.A,Snd.I,mu,dN]
 rw[show dN x=dZ x by unfold dN;rw[if_neg j,if_neg a,if_pos w]];unfold dZ at s ⊢;split;rename_i e;rw[if_pos e]at s;exact b0e s (by show(4:Int)=x.E+1;omega) ⟨by omega,by omega⟩;grind[a3h,mu,dN];by_cases u:x.E=4;have s:=h.u4 u;have N:∀z:Hp,z.E=4->part z=sm D4 z.A:=λz l=>by
  unfold part;rw[if_neg (by omega),if_pos l]
 rw[show dN x=unit4 x by unfold dN;rw[if_neg j,if_neg a,if_neg w,if_pos u]];unfold unit4 at s ⊢;split;rename_i e;rw[if_pos e]at s;exact b0e s (by show(5:Int)=x.E+1;omega) ⟨by omega,by omega⟩;rename_i e;have U:=a0i x;obtain⟨q,_⟩|⟨f,q,hf,v,_⟩:=a2c x x.A.length
 ·omega
 rw[q]at e ⊢;have ef:((f:Int)).toNat=f:=by omega
 rw[ef];have⟨t,ht⟩:=obE (uE x);rw[<-ht]at U e ⊢;refine a3h rfl C ?_;rw[N x u];refine Nat.lt_of_le_of_lt (Nat.le_of_eq (N _ ?_)) ?_;exact u;show sm D4 ((x.A.set t (x.c f)).set f (mvC t))<_;have a1:=b4y D4 x.A t (x.c f) (by omega);have a2:=b4y D4 (x.A.set t (x.c f)) f (mvC t) (by rw[List.length_set];exact hf);have a3:(x.A.set t (x.c f))[f]'(by rw[List.length_set];exact hf)=x.c f:=by
  rw[List.getElem_set,if_neg (by omega),Hp.c_eq]
 rw[a3]at a2;rw[Hp.c_eq x t (by omega)]at a1;have b2:D4 (mvC t)=0:=by simp[D4,mvC]
 have b3:D4 (x.c t)=1:=by simp[D4,U.2.2 (by omega)]
 omega;by_cases o:x.E=5;have s:=h.u5 o;have B:=h.r6.2.2.1 o;have P:∀z:Hp,z.E=5->part z=sm D5 (z.A.drop z.I.toNat)-z.sub.toNat:=λz l=>by
  unfold part;rw[if_neg (by omega),if_neg (by omega),if_pos l]
 rw[show dN x=dY x by unfold dN;rw[if_neg j,if_neg a,if_neg w,if_neg u,if_pos o]];unfold dY at s ⊢;split;rename_i e;rw[if_pos e]at s;exact b0e s (by show(6:Int)=x.E+1;omega) ⟨by omega,by omega⟩;rename_i e;have⟨i,k⟩:∃i:Nat,x.I=(i:Int):=⟨x.I.toNat,by omega⟩;have b:i<x.A.length:=by omega
 have S:x.I.toNat=i:=by omega
 rw[S]at B ⊢;have M:x.sub<=(x.c i).F.length:=by grind[Hp.c,mu,dN]
 have dr:=sm_drop D5 x.A i b;have d5:D5 x.A[i]=(x.c i).F.length+1:=by rw[Hp.c_eq x i b];rfl
 split;refine a3h rfl C ?_;rw[P x o];refine Nat.lt_of_le_of_lt (Nat.le_of_eq (P _ ?_)) ?_
 ·exact o
 show sm D5 ((x.A.set i (zX x (x.c i) x.sub.toNat)).drop x.I.toNat)-(x.sub+1).toNat<_;rw[c1e D5 x.A i _ _ b (by rw[Hp.c_eq x i b];simp[D5,zX]),S];omega;grind[a3h,sm,D5,uQ.A,Snd.drop,Snd.I,mu,dN];grind[part,Snd.I,dN,dL,mu,tU,dD,a3h]
def regTo(x:Hp)(r:Nat)(y:Wd):Hp:={ x with B:=x.B.set r y }
theorem Snd.regTo(h:Snd x)(r:Nat)(y:Wd)(hy:hE x y False):Snd (regTo x r y) where
 r1:=⟨h.r1.M,by simp[Proofs.YtolmnenlnpbcfaaGreatDoor.regTo];exact h.r1.B,h.r1.A,h.r1.D,h.r1.born,h.r1.Q,h.r1.S,h.r1.per,h.r1.V,h.r1.E,h.r1.I,h.r1.sub⟩
 r2:=h.r2
 r3:=h.r3
 r4:=⟨λi hi=>by
  have hi2:i<x.B.length:=by simpa[Proofs.YtolmnenlnpbcfaaGreatDoor.regTo]using hi
  by_cases e:r=i;subst e;have:(Proofs.YtolmnenlnpbcfaaGreatDoor.regTo x r y).B[r]=y:=by simp[Proofs.YtolmnenlnpbcfaaGreatDoor.regTo]
  rw[this];exact hy;have:(Proofs.YtolmnenlnpbcfaaGreatDoor.regTo x r y).B[i]=x.B[i]:=by simp[Proofs.YtolmnenlnpbcfaaGreatDoor.regTo,List.getElem_set_ne e]
  rw[this];exact h.r4.1 i hi2,h.r4.2⟩
 r5:=h.r5
 r6:=h.r6
 r7:=h.r7
 r8:=h.r8
def paceTo(x:Hp)(p s:Int):Hp:={ x with per:=p,V:=s }
theorem Snd.paceTo(h:Snd x)(p s:Int)(hp:0<=p/\p<=64)(hs:0<=s/\s<=4000):Snd (paceTo x p s) where
 r1:=⟨h.r1.M,h.r1.B,h.r1.A,h.r1.D,h.r1.born,h.r1.Q,h.r1.S,hp,hs,h.r1.E,h.r1.I,h.r1.sub⟩
 r2:=h.r2
 r3:=h.r3
 r4:=h.r4
 r5:=h.r5
 r6:=h.r6
 r7:=h.r7
 r8:=h.r8
def forceTo(x:Hp):Hp:={ x with S:=if x.S<1000000000 then x.S+1 else x.S }
theorem Snd.forceTo(h:Snd x):Snd (forceTo x) where
 r1:=⟨h.r1.M,h.r1.B,h.r1.A,h.r1.D,h.r1.born,h.r1.Q,by have:=h.r1.S;show 0<=(if x.S<1000000000 then x.S+1 else x.S)/\(if x.S<1000000000 then x.S+1 else x.S)<=1000000000;split <;> omega,h.r1.per,h.r1.V,h.r1.E,h.r1.I,h.r1.sub⟩
 r2:=h.r2
 r3:=h.r3
 r4:=h.r4
 r5:=h.r5
 r6:=h.r6
 r7:=h.r7
 r8:=h.r8
def itU:Nat->Hp->Hp
 | 0,x=>x
 | k+1,x=>dN (itU k x)
theorem Snd.itU{x:Hp}(h:Snd x):∀k,Snd (itU k x)
 | 0=>h
 | k+1=>(Snd.itU h k).unit
def kQ(x:Hp)(k:Nat):Prop:=∀j,j<k->(itU j x).E≠0
def b3b(x:Hp)(k:Nat):Prop:=(itU k x).E=0/\kQ x k
theorem kQ.zero(x:Hp):kQ x 0:=λj h=>by omega
theorem kQ.succ(h:kQ x k)(a:(itU k x).E≠0):kQ x (k+1):=by grind[kQ,itU,Snd.itU]
theorem b3b.uniq(a:b3b x j)(b:b3b x k):j=k:=by
 obtain h|h|h:=nR j k;exact(b.2 j h a.1).elim;exact h;exact(a.2 k h b.1).elim
theorem kQ.mu{x:Hp}(s:Snd x):∀k,kQ x k->mu (itU k x)+k<=mu x
 | 0,_=>by simp[Go.Proofs.YtolmnenlnpbcfaaGreatDoor.itU]
 | k+1,h=>by
  have h1:=kQ.mu s k (λj hj=>h j (by omega));have h2:=(s.itU k).less (h k (by omega));simp only[Go.Proofs.YtolmnenlnpbcfaaGreatDoor.itU];omega
theorem kQ.le(s:Snd x)(h:kQ x k):k<=14000000:=by
 have:=kQ.mu s k h;have:=s.mu_le;omega
def a2j(x:Hp)(n k:Nat):Prop:=kQ x k/\k<=n/\(k=n\/(itU k x).E=0)
theorem a2j.uniq(a:a2j x n j)(b:a2j x n k):j=k:=by
 obtain h|h|h:=nR j k;obtain e|e:=a.2.2
 ·have:=b.2.1;omega
 exact(b.1 j h e).elim;exact h;obtain e|e:=b.2.2
 ·have:=a.2.1;omega
 exact(a.1 k h e).elim
def a9g(x:Hp)(y:Hp):Prop:=∃k,b3b x k/\y=itU k x
theorem a9g.uniq(h:a9g x y)(g:a9g x z):y=z:=by
 have⟨j,a,b⟩:=h;have⟨k,c,d⟩:=g;rw[b,d,a.uniq c]
theorem a9g.snd(s:Snd x)(h:a9g x y):Snd y/\y.E=0:=by
 have⟨k,a,b⟩:=h;rw[b];exact⟨s.itU k,a.1⟩
def stepH(x:Hp)(n:Nat):Hp:=if x.E=0/\n≠0 then dC x 1 0 else x
theorem Snd.stepH(s:Snd x)(n:Nat):Snd (stepH x n):=by grind[stepH,Snd.begin]
def zY(x:Hp)(u:Nat):Bool:=decide (x.K+u<=x.M)
def a6z(x z:Hp):Prop:=∃y,a9g x y/\a9g (dC y 1 0) z
theorem a6z.uniq(h:a6z x y)(k:a6z x z):y=z:=by
 have⟨a,c,d⟩:=h;have⟨b,g,f⟩:=k;have e:=c.uniq g;subst e;exact d.uniq f
theorem a6z.snd(s:Snd x)(h:a6z x z):Snd z:=by grind[a6z,a9g.snd,qQ.snd,Snd.begin]
def tN(x:Hp)(u:Nat)(y:Hp):Prop:=(zY x u=true/\y=x)\/(zY x u=false/\a6z (forceTo x) y)
theorem tN.uniq(h:tN x u y)(k:tN x u z):y=z:=by
 obtain⟨h1,h2⟩|⟨h1,h2⟩:=h <;> obtain⟨k1,k2⟩|⟨k1,k2⟩:=k
 rw[h2,k2];rw[h1]at k1;cases k1;rw[h1]at k1;cases k1;exact h2.uniq k2
theorem tN.snd(s:Snd x)(h:tN x u y):Snd y:=by
 obtain⟨_,h⟩|⟨_,h⟩:=h;rw[h];exact s;exact h.snd s.forceTo
def a4a(x:Hp)(u:Nat):Bool:=x.per == 0 || (u == 0 || (x.E == 0 && decide (x.K<=x.V)))
def zV(x:Hp)(u:Nat)(y:Hp):Prop:=(a4a x u=true/\y=x)\/(a4a x u=false/\∃k,a2j (stepH x (x.per.toNat*u)) (x.per.toNat*u) k/\y=itU k (stepH x (x.per.toNat*u)))
theorem zV.uniq(h:zV x u y)(k:zV x u z):y=z:=by
 obtain⟨h1,h2⟩|⟨h1,j,h2,h3⟩:=h <;> obtain⟨k1,k2⟩|⟨k1,i,k2,k3⟩:=k
 rw[h2,k2];rw[h1]at k1;cases k1;rw[h1]at k1;cases k1;rw[h3,k3,h2.uniq k2]
theorem zV.snd(s:Snd x)(h:zV x u y):Snd y:=by grind[zV,stepH,Snd.stepH,itU,Snd.itU]
def tY(c:Cl)(n:Nat):Cl:={ c with F:=c.F++List.replicate n Pr0 }
def zD(x:Hp)(i n:Nat):Hp:={ x with A:=x.A.set i (tY (x.c i) n),K:=x.K+n }
theorem a2y(x:Hp)(i n:Nat)(a:i<x.A.length)(q:Nat):(zD x i n).c q=if q=i then tY (x.c i) n else x.c q:=Hp.c_set x i (tY (x.c i) n) a q
theorem a0h(x:Hp)(i n:Nat):(zD x i n).A.length=x.A.length:=by simp[zD]
theorem a0t(x:Hp)(i n:Nat)(a:i<x.A.length)(q:Nat):((zD x i n).c q).st=(x.c q).st/\((zD x i n).c q).kind=(x.c q).kind/\((zD x i n).c q).T=(x.c q).T/\((zD x i n).c q).U=(x.c q).U/\((zD x i n).c q).born=(x.c q).born/\((zD x i n).c q).J=(x.c q).J/\((zD x i n).c q).to=(x.c q).to:=by
 rw[a2y x i n a q];by_cases e:q=i;rw[if_pos e,e];exact⟨rfl,rfl,rfl,rfl,rfl,rfl,rfl⟩;grind[zD,Hp.c]
theorem c7d(c:Cl)(n k:Nat):(tY c n).p k=if k<c.F.length then c.p k else Pr0:=by
 unfold Cl.p tY;by_cases h:k<c.F.length;grind[Hp.c,tY,Cl.p,Pr0];grind[Hp.c,tY,Cl.p,Pr0]
theorem a3i(x:Hp)(i n:Nat)(b:i<x.A.length)(q:Nat):uW (zD x i n) q↔uW x q:=by
 have a:=a0t x i n b q;unfold uW;rw[a.1,a.2.2.2.2.2.1];exact Iff.rfl
theorem a7d(x:Hp)(i n:Nat)(b:i<x.A.length)(y:Wd)(m:Prop):hE (zD x i n) y m↔hE x y m:=by
 unfold hE;rw[a0h,(a0t x i n b y.a.toNat).1,a3i x i n b]
theorem Snd.grow(h:Snd x)(i n:Nat)(l:i<x.A.length)(I:(x.c i).st=1)(hl:(x.c i).F.length+n<=200)(hu:x.K+n<=x.M):Snd (zD x i n) where
 r1:=⟨h.r1.M,h.r1.B,by rw[a0h];exact h.r1.A,by rw[a0h];exact h.r1.D,h.r1.born,h.r1.Q,h.r1.S,h.r1.per,h.r1.V,h.r1.E,by rw[a0h];exact h.r1.I,h.r1.sub⟩
 r2:=⟨λq f=>by
  rw[a0h]at f;have K:=h.r2.1 q f;by_cases e:q=i;subst e;obtain o|o|o:=K
  ·omega
  omega;refine .inr (.inr ⟨?_,?_⟩)
  ·rw[a2y x q n l q,if_pos rfl];exact I
  rw[a2y x q n l q,if_pos rfl];have⟨_,O,T,R,o4,W,o6,o7⟩:=o;exact⟨O,T,R,o4,W,o6,by simp[tY];omega⟩;have X:(zD x i n).c q=x.c q:=by rw[a2y x i n l q,if_neg e]
  unfold cZ;rw[X];obtain o|⟨o,m⟩|o:=K;exact .inl o;refine .inr (.inl ⟨o,m.1,m.2.1,m.2.2.1,m.2.2.2.1,by rw[(a0t x i n l (x.c q).to.toNat).1];exact m.2.2.2.2.1,λA k t=>?_⟩);have C:=a0t x i n l k;rw[C.1];exact m.2.2.2.2.2 A k t;exact .inr (.inr o),λq f N k t=>by
  rw[a0h]at f;have z:=a0t x i n l q;have C:=a0t x i n l k;rw[z.1]at N;rw[C.1,C.2.2.2.2.1,C.2.2.2.2.2.2,z.1,z.2.2.2.2.1,z.2.2.2.2.2.2];exact h.r2.2 q f N k t⟩
 r3:=by
  have u:=a2b x.A i (tY (x.c i) n) l;rw[Hp.c_eq x i l]at u;have S:cL (x.c i)=1+(x.c i).F.length:=by unfold cL;rw[if_pos I]
  have Y:cL (tY (x.c i) n)=1+((x.c i).F.length+n):=by
   unfold cL;rw[if_pos (show(tY (x.c i) n).st=1 from I)];simp[tY]
  rw[S,Y]at u;refine⟨?_,hu⟩;show x.K+(n:Int)=(dH (x.A.set i (tY (x.c i) n)):Nat);have:=h.r3.1;omega
 r4:=⟨λj hj=>(a7d x i n l _ _).2 (h.r4.1 j hj),λq f=>by
  rw[a0h]at f;have z:=a0t x i n l q;refine⟨λ⟨d,s⟩=>(h.r4.2 q f).1 ⟨(a3i x i n l q).1 d,by unfold cK at s ⊢;rw[z.2.2.2.1]at s;exact s⟩,λk t=>?_⟩;have B:∀p:Pr,a3f x q k p->a3f (zD x i n) q k p:=λp o=>⟨λd=>by rw[a0h];exact o.1 ((a3i x i n l q).1 d),λd=>by
   have:=o.2 (λd2=>d ((a3i x i n l q).2 d2));exact⟨(a7d x i n l _ _).2 this.1,(a7d x i n l _ _).2 this.2⟩⟩
  by_cases e:q=i;subst e;rw[a2y x q n l q,if_pos rfl]at t ⊢;rw[c7d];by_cases v:k<(x.c q).F.length
  ·rw[if_pos v];exact B _ ((h.r4.2 q f).2 k v)
  rw[if_neg v];have E:∀m:Prop,hE x ⟨0,0,0⟩ m:=λm=>⟨.inl ⟨rfl,rfl,rfl⟩,λh=>by simp at h⟩
  exact B _ ⟨λ_=>⟨(E True).1,(E True).1⟩,λ_=>⟨E _,E _⟩⟩;rw[a2y x i n l q,if_neg e]at t ⊢;exact B _ ((h.r4.2 q f).2 k t)⟩
 r5:=⟨h.r5.1,λq f=>by
  rw[a0h]at f;have z:=a0t x i n l q;unfold a0n;rw[z.2.2.2.2.2.1];exact h.r5.2.1 q f,λg F=>by rw[a0h];exact h.r5.2.2 g F⟩
 r6:=by
  have L:∀q,(x.c q).F.length<=((zD x i n).c q).F.length:=λq=>by
   rw[a2y x i n l q];by_cases e:q=i;rw[if_pos e,e];simp[tY];rw[if_neg e];exact hT _
  have⟨a,b,c,d⟩:=h.r6;refine⟨a,λA=>⟨(b A).1,(b A).2.1,λF=>?_⟩,λA=>⟨λf=>(c A).1 ?_,λf=>?_⟩,d⟩;have Z:=(b A).2.2 F;have V:=L x.g0;show x.sub<=(((zD x i n).c x.g0).F.length:Int);omega;rw[a0h]at f;have:=a0t x i n l x.I.toNat;obtain f|f:=f
  ·exact .inl f
  exact .inr (this.1▸f);rw[a0h]at f;have Z:=(c A).2 ⟨f.1,by rw[<-(a0t x i n l x.I.toNat).1];exact f.2⟩;have V:=L x.I.toNat;show x.sub<=(((zD x i n).c x.I.toNat).F.length:Int);omega
 r7:=λP q f=>by
  rw[a0h]at f;have z:=a0t x i n l q;have o:=h.r7 P q f;refine⟨λG=>o.1 ⟨by have:=G.1;unfold cK at this ⊢;rw[z.2.2.2.1]at this;exact this,z.2.2.2.2.2.1▸G.2.1,G.2.2⟩,λk t=>?_⟩;have M:∀y:Wd,dJ (zD x i n) y->dJ x y:=λy J=>⟨J.1,(a0t x i n l y.a.toNat).2.2.2.2.2.1▸J.2⟩
  have H:∀p:Pr,p=Pr0->¬dJ (zD x i n) p.key/\¬dJ (zD x i n) p.val:=λp e=>by subst e;exact⟨λw=>by have:=w.1;simp[Pr0]at this,λw=>by have:=w.1;simp[Pr0]at this⟩
  have D:∀k,k<eH x q->(k<(x.c q).F.length->True)->¬dJ (zD x i n) ((x.c q).p k).key/\¬dJ (zD x i n) ((x.c q).p k).val:=λk t _=>⟨λw=>(o.2 k t).1 (M _ w),λw=>(o.2 k t).2 (M _ w)⟩
  by_cases e:q=i;subst e;rw[a2y x q n l q,if_pos rfl,c7d];by_cases v:k<(x.c q).F.length
  ·rw[if_pos v];refine D k ?_ (λ_=>trivial);unfold eH at t ⊢;rw[z.2.2.2.2.2.1]at t;split at t;grind[Hp.c,zD];grind[Hp.c,zD]
  rw[if_neg v];exact H _ rfl;rw[a2y x i n l q,if_neg e];refine D k ?_ (λ_=>trivial);unfold eH at t ⊢;rw[a2y x i n l q,if_neg e]at t;exact t
 r8:=λq f=>by
  rw[a0h]at f;rw[(a0t x i n l q).1];exact h.r8 q f
def tZ(b k:Int)(n:Nat)(col:Int):Cl:=⟨1,k,0,0,b,col,0,List.replicate n Pr0⟩
def eV(x:Hp)(t:Nat):Int:=if x.E=1\/x.E=2\/(x.E=3/\x.I<=(t:Int)) then 2 else 0
def tW(x:Hp)(t:Nat)(c:Cl):List Cl:=if t<x.A.length then x.A.set t c else x.A++[c]
def tX(x:Hp)(k:Int)(n:Nat):Hp:={ x with born:=x.born+1,K:=x.K+(1+n),A:=tW x (uE x) (tZ (x.born+1) k n (eV x (uE x))) }
theorem a3p(x:Hp)(t:Nat)(c:Cl):(tW x t c).length=if t<x.A.length then x.A.length else x.A.length+1:=by
 unfold tW;split <;> simp
theorem b9r(x z:Hp)(t:Nat)(c:Cl)(a:t<=x.A.length)(b:z.A=tW x t c)(q:Nat):z.c q=if q=t then c else x.c q:=by grind[Hp.c,uQ.A,tW]
theorem Snd.crowd{x:Hp}(h:Snd x)(H:∀i,i<x.A.length->(x.c i).st≠0):x.A.length<=2*dH x.A:=by
 have f:=h.r2;let U:=(List.range x.A.length).filter (λi=>(x.c i).st == 1);let M:=(List.range x.A.length).filter (λi=>(x.c i).st == 2);have K:U.length<=dH x.A:=by
  have d:∀m,m<=x.A.length->((List.range m).filter (λi=>(x.c i).st == 1)).length<=dH (x.A.take m):=λm=>by
   induction m with
   | zero=>intro _;simp
   | succ m ih=>
    intro q;have s:=ih (by omega);have D:x.A.take (m+1)=x.A.take m++[x.A[m]'(by omega)]:=kj (by omega);rw[mb,k7,kV,D];have C:dH (x.A.take m++[x.A[m]'(by omega)])=dH (x.A.take m)+cL (x.c m):=by simp[dH,Hp.c_eq x m (by omega)]
    rw[C];by_cases e:(x.c m).st=1;grind[cL,Hp.c,dH];simp[e];omega
  have:=d x.A.length (hT _);rw[kz]at this;exact this
 have J:M.length<=U.length:=by
  have F:(M.map (λi=>(x.c i).to.toNat)).Nodup:=by
   rw[List.nodup_iff_pairwise_ne,nt];have G:M.Pairwise (· < ·):=List.Pairwise.filter _ List.pairwise_lt_range;refine qP (λ{a b} A r o e=>?_) G;have g:=mU.1 A;have k:=mU.1 r;have p:=mX.1 k.1;have P:(x.c a).st=2:=by simpa using g.2
   have O:(x.c b).st=2:=by simpa using k.2
   have u:=f.1 a (mX.1 g.1);have B:=f.1 b p;unfold cZ qL a5g at u B;exact f.2 b p (by omega) a o ⟨by omega,by omega,by omega⟩
  have l:∀z,z∈M.map (λi=>(x.c i).to.toNat)->z∈U:=λz v=>by
   have⟨i,t,e⟩:=mY.1 v;have j:=mU.1 t;have w:=mX.1 j.1;have N:(x.c i).st=2:=by simpa using j.2
   have y:=f.1 i w;unfold cZ qL at y;have st:(x.c (x.c i).to.toNat).st=1:=by grind[Hp.c,dH]
   rw[<-e];exact mU.2 ⟨mX.2 (by omega),by simpa using st⟩
  have:=qR F l;simpa using this
 have L:x.A.length<=U.length+M.length:=by
  have d:∀m,m<=x.A.length->m<=((List.range m).filter (λi=>(x.c i).st == 1)).length+((List.range m).filter (λi=>(x.c i).st == 2)).length:=λm=>by
   induction m with
   | zero=>intro _;omega
   | succ m ih=>
    intro q;have s:=ih (by omega);rw[mb,k7,k7,kV,kV];have:=f.1 m (by omega);have I:=H m (by omega);have n:(x.c m).st=1\/(x.c m).st=2:=by unfold cZ at this;omega
    obtain e|e:=n;simp[e];omega;simp[e];omega
  exact d x.A.length (hT _)
 omega
theorem b9g(x:Hp)(b a q i:Nat)(w:World)(f:w.cell? (aA b 5)=some (iv x.E))(d:w.cell? (aA b 6)=some (iv x.I))(g:w.cell? (aA a q)=some (iv i)):
  Calls prog 138 #[pP b,pQ a q] w λe w'=>e=.returned (.bool ((x.E == 2) || decide ((i:Int)<x.I)))/\Ext w w':=by
 cases c:(x.E == 2)
 all_goals
  go_in;go_wp21;go_quiet (fail);go_wp2;go_ret;exact⟨by simp,(hO w).drewN _⟩
theorem c4y(x:Hp)(b g q i k:Nat)(w:World)(l:w.cell? (aA b 5)=some (iv x.E))(j:w.cell? (aA b 6)=some (iv x.I))(h:w.cell? (aA b 7)=some (iv x.sub))(m:w.cell? (aA g q)=some (iv i)):
  Calls prog 179 #[pP b,pQ g q,iv k] w λe w'=>e=.returned (.bool (dK x i k))/\Ext w w':=by
 cases a:(x.E == 4)
 ·cases c:(x.E == 5)
  ·have E:=uU (show dK x i k=true by simp at a c;simp[dK,a,c]);go_in;go_wp2;go_ret;exact⟨by rw[uH E];rfl,hO w⟩
  have E:=uU (show dK x i k=(decide ((i:Int)<x.I) || ((i:Int) == x.I && decide ((k:Int)<x.sub))) by simp at c;simp[dK,c]);cases d:decide ((i:Int)<x.I)
  ·cases f:((i:Int) == x.I);rotate_left
   all_goals
    go_in;go_wp21;go_quiet (fail);go_wp2;go_ret;exact⟨by rw[uH E,d,f];simp,(hO w).drewN _⟩
  go_in;go_wp21;go_quiet (fail);go_wp2;go_ret;exact⟨by rw[uH E,d];simp,(hO w).drewN _⟩
 go_in;go_wp2;go_ret;exact⟨by rw[(show dK x i k=false by simp at a;simp[dK,a])];rfl,hO w⟩
theorem newC_p(b k:Int)(n:Nat)(a:Int)(j:Nat):(tZ b k n a).p j=Pr0:=by grind[tZ,Cl.p,Pr0]
theorem Snd.make(h:Snd x)(k:Int)(n:Nat)(hk:0<=k/\k<=255)(hn:n<=200)(hb:x.born<1000000000)(hu:x.K+(1+n)<=x.M):Snd (tX x k n)/\((tX x k n).c (uE x)).st=1/\uE x<(tX x k n).A.length/\¬uW (tX x k n) (uE x):=by
 have⟨f1,f2,f3⟩:=a0i x;have⟨t,ht⟩:=obE (uE x);have⟨c,I⟩:=obE (tZ (x.born+1) k n (eV x t));have⟨z,G⟩:=obE (tX x k n);rw[<-ht]at f1 f2 f3 ⊢;have P:z.A=tW x t c:=by rw[G,I,ht];rfl
 have zc:∀q,z.c q=if q=t then c else x.c q:=b9r x z t c f1 P;have zl:z.A.length=if t<x.A.length then x.A.length else x.A.length+1:=P▸a3p x t c
 have ab:x.A.length<=z.A.length:=by rw[zl];split <;> omega
 have Q:∀q,q<z.A.length->q=t\/(q≠t/\q<x.A.length):=λq D=>by grind[uQ.A,tX,Hp.c,uE,uW]
 have tl:t<z.A.length:=by rw[zl];split <;> omega
 have u:∀q,q≠t->z.c q=x.c q:=λq e=>by rw[zc q,if_neg e]
 have K:z.c t=c:=by rw[zc t,if_pos rfl]
 have V:∀q,q<x.A.length->(x.c q).st≠0->q≠t:=λq D hs e=>by subst e;exact hs (f3 D)
 have M:z.M=x.M:=by rw[G];rfl
 have Y:z.K=x.K+(1+n):=by rw[G];rfl
 have X:z.born=x.born+1:=by rw[G];rfl
 have L:z.B=x.B:=by rw[G];rfl
 have r:z.E=x.E:=by rw[G];rfl
 have A:z.I=x.I:=by rw[G];rfl
 have E:z.sub=x.sub:=by rw[G];rfl
 have C:z.D=x.D:=by rw[G];rfl
 have B:z.per=x.per/\z.V=x.V/\z.Q=x.Q/\z.S=x.S:=G▸⟨rfl,rfl,rfl,rfl⟩;have O:c.st=1:=by rw[I];rfl
 have ah:c.born=x.born+1:=by rw[I];rfl
 have ac:c.to=0:=by rw[I];rfl
 have ai:c.U=0:=by rw[I];rfl
 have W:c.J=eV x t:=by rw[I];rfl
 have Z:c.F.length=n:=by rw[I];simp[tZ]
 have cp:∀j,c.p j=Pr0:=λj=>I▸newC_p _ _ _ _ j
 have R:¬uW z t:=λd=>by grind[uW,eV,tX,Hp.c,uE]
 have dm:∀q,q≠t->(uW z q↔uW x q):=λq e=>by unfold uW;rw[r,A,u q e]
 have fm:∀y:Wd,uJ y x.A.length->uJ y z.A.length:=λy f=>by unfold uJ at f ⊢;omega
 have ld:∀(y:Wd)(m:Prop),hE x y m->hE z y m:=λy m l=>⟨fm y l.1,λhk=>by grind[hE,uJ,uQ.A,tX,Hp.c,uE,uW]⟩
 have nl:∀m:Prop,hE z ⟨0,0,0⟩ m:=λm=>⟨.inl ⟨rfl,rfl,rfl⟩,λh=>by simp at h⟩
 have us:x.K=(dH x.A:Nat):=h.r3.1;rw[<-G];refine⟨⟨?_,?_,?_,?_,?_,?_,?_,?_⟩,K▸O,tl,R⟩;refine⟨by rw[M];exact h.r1.M,L▸h.r1.B,?_,C▸kA h.r1.D ab,by rw[X];have:=h.r1.born;omega,B.2.2.1▸h.r1.Q,B.2.2.2▸h.r1.S,B.1▸h.r1.per,B.2.1▸h.r1.V,r▸h.r1.E,by rw[A];have:=h.r1.I;omega,E▸h.r1.sub⟩;rw[M,zl];by_cases e:t<x.A.length
 ·rw[if_pos e];exact h.r1.A
 grind[Snd.crowd,tX,Hp.c,uE,uW];refine⟨λq D=>?_,λq D h0 j H N=>?_⟩
 ·obtain e|⟨e,v⟩:=Q q D
  ·subst e;refine .inr (.inr ⟨K▸O,?_⟩);rw[K];have cc:0<=c.J/\c.J<=2:=by rw[W];unfold eV;split <;> omega
   have ck:c.kind=k:=by rw[I];rfl
   have cw:c.T=0:=by rw[I];rfl
   have:=h.r1.born;exact⟨ck▸hk,by omega,by omega,by rw[X];omega,cc,ac,by omega⟩
  have U:=h.r2.1 q v;unfold cZ;rw[u q e];obtain o|⟨o,m⟩|⟨o,m⟩:=U
  ·exact .inl o
  have mt:=m.2.2.2.2.1;have tt:=m.2.2.2.1;have J:=V (x.c q).to.toNat (by omega) (by rw[mt];omega);refine .inr (.inl ⟨o,m.1,r▸m.2.1,m.2.2.1,tt,u _ J▸mt,λF j H=>?_⟩);rw[r]at F;have:=m.2.2.2.2.2 F j H;by_cases ej:j=t
  ·rw[ej,K];omega
  rw[u j ej];exact this;grind[a2q,tX,Hp.c,uE,uW]
 have ag:∀a,a≠t->a<x.A.length->(x.c a).st=1->(x.c a).born<=x.born:=λa _ ha hs=>by
  have:=h.r2.1 a ha;unfold cZ a2q at this;omega
 obtain e|⟨e,v⟩:=Q q D;grind[tX,Hp.c,uE,uW];obtain J|⟨J,af⟩:=Q j (by omega)
 ·grind[tX,Hp.c,uE,uW]
 rw[u j J,u q e]at N;rw[u q e]at h0;exact h.r2.2 q v h0 j H N;refine⟨?_,by rw[Y,M];exact hu⟩;rw[Y,P];have uc:cL c=1+n:=by unfold cL;rw[if_pos O,Z]
 unfold tW;by_cases e:t<x.A.length;grind[a2b,uQ.A,Hp.c,Hp.c_eq,cL,tX,uE,uW];grind[dH,uQ.A,Hp.c,cL,tX,uE,uW];refine⟨λi hi=>?_,λq D=>?_⟩
 ·have e:z.B[i]=x.B[i]'(L▸hi):=by simp only[L]
  rw[e];exact ld _ _ (h.r4.1 i (L▸hi))
 obtain e|⟨e,v⟩:=Q q D
 ·subst e;refine⟨λd=>R d.1,λj H=>?_⟩;rw[K,cp j];exact⟨λd=>(R d).elim,λ_=>⟨nl _,nl _⟩⟩
 have o:=h.r4.2 q v;have md:∀j,cN z q j↔cN x q j:=λj=>by unfold cN;rw[r,A,E]
 rw[u q e];refine⟨λd=>o.1 ⟨(dm q e).1 d.1,d.2⟩,λj H=>?_⟩;have p:=o.2 j H;refine⟨λd=>?_,λd=>?_⟩;have:=p.1 ((dm q e).1 d);exact⟨fm _ this.1,fm _ this.2⟩;have:=p.2 (λd2=>d ((dm q e).2 d2));have em:(¬cN z q j)=(¬cN x q j):=propext (not_congr (md j));rw[em];exact⟨ld _ _ this.1,ld _ _ this.2⟩;refine⟨λT=>C▸h.r5.1 (λm=>T (by unfold uD at m ⊢;rw[r];exact m)),λq D=>?_,λg S=>?_⟩
 ·obtain e|⟨e,v⟩:=Q q D
  ·subst e;have c0:cnt x.D q=0:=by
    by_cases e:q<x.A.length;have U:=h.r2.1 q e;have s0:=f3 e;have:(x.c q).J≠1:=by unfold cZ a5g at U;omega
    exact(h.r5.2.1 q e).2.1 this;unfold cnt;rw[nO];intro S;have:=h.r5.2.2 _ S;omega
   unfold a0n;rw[K,C,r,A,W];refine⟨λe1=>?_,λ_=>c0,λJ=>?_⟩;unfold eV at e1;split at e1 <;> omega
   grind[eV,uD,tX,Hp.c,uE,uW]
  have o:=h.r5.2.1 q v;unfold a0n at o ⊢;rw[u q e,C,r,A];exact⟨o.1,o.2.1,λJ=>by grind[uD,tX,Hp.c,uE,uW]⟩
 rw[C]at S;have:=h.r5.2.2 g S;omega;have⟨a,b,d,e⟩:=h.r6;refine⟨λF=>by rw[r]at F;rw[A,E];exact a F,λF=>?_,λF=>?_,λF=>by rw[r]at F;rw[E];exact e F⟩
 ·rw[r]at F;have b2:=b F;have eg:z.g0=x.g0:=by unfold Hp.g0;rw[C]
  rw[A,C,E,eg];refine⟨b2.1,b2.2.1,λS=>?_⟩;have gl:(x.D.getD 0 0)∈x.D:=by grind[yN.nil,tX,Hp.c,uE,uW]
  have gr:=h.r5.2.2 _ gl;have ad:x.g0<x.A.length:=by unfold Hp.g0;omega
  by_cases J:x.g0=t;have s0:=f3 (by omega);rw[<-J]at s0;have U:=h.r2.1 x.g0 ad;have p0:(x.c x.g0).F.length=0:=by unfold cZ a5g at U;omega
  rw[J,K,Z];omega;rw[u _ J];exact b2.2.2 S
 rw[r]at F;have hh:=h.r1.I;rw[A,E];have ae:x.I.toNat=t\/x.I.toNat≠t:=by omega
 refine⟨λD=>?_,λD=>?_⟩;grind[tX,Hp.c,uE,uW];grind[uQ.A,tX,Hp.c,uE,uW];intro T q D;have aa:uD x:=by unfold uD at T ⊢;rw[r]at T;exact T
 have wh:∀y:Wd,dJ z y->dJ x y:=λy hy=>⟨hy.1,by grind[dJ,eV,uD,tX,Hp.c,uE,uW]⟩
 obtain e|⟨e,v⟩:=Q q D;subst e;rw[K];refine⟨λs=>?_,λj _=>?_⟩
 ·have:=s.1;unfold cK at this;omega
 rw[cp j];exact⟨λw=>by have:=w.1;simp[Pr0]at this,λw=>by have:=w.1;simp[Pr0]at this⟩;have o:=h.r7 aa q v;rw[u q e,r,A];refine⟨o.1,λj H=>?_⟩;have lk:eH z q=eH x q:=by unfold eH;rw[u q e,r,C,E]
 rw[lk]at H;exact⟨λw=>(o.2 j H).1 (wh _ w),λw=>(o.2 j H).2 (wh _ w)⟩;intro q D;rw[r,A];obtain e|⟨e,v⟩:=Q q D
 ·subst e;rw[K];intro N;omega
 rw[u q e];exact h.r8 q v
end Go.Proofs.YtolmnenlnpbcfaaGreatDoor
