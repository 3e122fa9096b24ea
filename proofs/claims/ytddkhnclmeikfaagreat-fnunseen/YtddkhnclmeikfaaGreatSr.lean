import Derived.Test.YtddkhnclmeikfaaGreatRw
import Derived.Deep.DeepCutAuto
import Derived.Deep.LoopGhost
import Derived.Deep.RegionLaw
import Derived.Deep.RegionWith
namespace Go.Proofs.YtddkhnclmeikfaaGreat
open Go.RowKit Tryz
attribute [local go_sem ↓] Go.wp_at_zero Go.wp_at_succ
variable{x y z:Hp}{k u:Nat}
theorem dX.all(h:dX x 0):R1 x/\R2 x/\R3 x/\R4 x:=by grind [dX,R2,R3,R4]
theorem dX.n8(h:dX x 0):x.A.length<=8000:=by have:=h.all.1.M;have:=h.all.1.A;omega
theorem dX.p200(h:dX x 0)(i:Nat)(a:i<x.A.length):(x.c i).F.length<=200:=by
 rcases h.all.2.1.1 i a with c | c | c
 ·have:=c.2.1.2.2.2.2.2;omega
 ·have:=c.2.1.2.2.2.2.2;omega
 ·exact c.2.2.2.2.2.2.2
def Hp0:Hp:=⟨0,0,0,[],[],0,0,0,[],0,0,0,0⟩
def ShOk(x:Hp)(at_:Int):Prop:=dX x 0/\0<=at_/\at_<x.A.length/\(x.c at_.toNat).st=1
def ShIs(x:Hp)(at_:Int)(y:Hp):Prop:=(ShOk x at_/\y=uD x at_.toNat)\/(¬ShOk x at_/\y=Hp0)
theorem dX.r5(h:dX x 0):R5 x:=by grind [dX,R5]
theorem a7b(x:Hp):∀(k:Nat) (L:List Nat),k<=x.A.length->L.Nodup->(∀i,i∈L->i<k/\(x.c i).st=1)->L.length<=units (x.A.take k)
 | 0,L,_,_,h=>by
  cases L with
  | nil=>simp
  | cons a L=>have:=(h a (List.mem_cons_self ..)).1;omega
 | k+1,L,hk,hn,h=>by
  have e:units (x.A.take (k+1))=units (x.A.take k)+hV (x.c k):=by
   rw[a5u x.A k (by omega),Hp.c_eq x k (by omega)]
  by_cases hm:k∈L
  ·have h1:=a7b x k (L.erase k) (by omega) (hn.erase k) (λi hi=>by
    have h2:=h i (List.mem_of_mem_erase hi);have h3:i≠k:=λe=>by rw[e] at hi;exact(List.Nodup.not_mem_erase hn) hi
    exact⟨by omega,h2.2⟩)
   rw[List.length_erase_of_mem hm] at h1;have h4:hV (x.c k)≥1:=by unfold hV;rw[if_pos (h k hm).2];omega
   have h5:0<L.length:=List.length_pos_of_mem hm;omega
  ·have h1:=a7b x k L (by omega) hn (λi hi=>by
    have h2:=h i hi;have h3:i≠k:=λe=>hm (by rw[<-e];exact hi)
    exact⟨by omega,h2.2⟩)
   omega
theorem b4i(d:R5 x):x.D.Nodup:=by
 rw[List.nodup_iff_count];intro g;by_cases f:g∈x.D
 ·obtain⟨i,h⟩:=d.2.2 g f;have e:((g.toNat:Nat):Int)=g:=by omega
  have b:=d.2.1 g.toNat (by omega);by_cases a:(x.c g.toNat).J=1
  ·have:=b.1 a;unfold cnt at this;rw[e] at this;omega
  ·have:=b.2.1 a;unfold cnt at this;rw[e] at this;omega
 ·grind [R5]
theorem b1k(j:R2 x)(d:R5 x)(g:Int)(b:g∈x.D):(x.c g.toNat).J=1/\(x.c g.toNat).st=1:=by
 obtain⟨l,k⟩:=d.2.2 g b;have e:((g.toNat:Nat):Int)=g:=by omega
 have h:=d.2.1 g.toNat (by omega)
 have a:(x.c g.toNat).J=1:=by
  rcases Int.decEq (x.c g.toNat).J 1 with i | f
  ·have:=h.2.1 i;unfold cnt at this;rw[e] at this;exact absurd b (List.count_eq_zero.1 this)
  ·exact f
 refine⟨a,?_⟩;rcases j.1 g.toNat (by omega) with c | c | c
 ·have:=c.2.1.2.2.2.2.1;omega
 ·have:=c.2.1.2.2.2.2.1;omega
 ·exact c.1
theorem a4b(q:dX x 0):x.D.length<=4000/\∀i,i<x.A.length->eQ x i=true->x.D.length<4000:=by
 obtain⟨r,s,n,_⟩:=q.all;have a:=q.r5;have v:(units x.A:Int)<=4000:=by have:=n.1;have:=n.2;have:=r.M;omega
 have p:(x.D.map Int.toNat).Nodup:=by
  unfold List.Nodup;rw[List.pairwise_map];exact List.Pairwise.imp_of_mem (λt d l e=>l (by have:=(a.2.2 _ t).1;have:=(a.2.2 _ d).1;omega)) (b4i a)
 have k:∀i,i∈x.D.map Int.toNat->i<x.A.length/\(x.c i).st=1/\(x.c i).J=1:=λi b=>by
  obtain⟨g,m,rfl⟩:=List.mem_map.1 b;have o:=a.2.2 g m;have f:=b1k s a g m;exact⟨by omega,f.2,f.1⟩
 have o:=a7b x x.A.length (x.D.map Int.toNat) (Nat.le_refl _) p (λi b=>⟨(k i b).1,(k i b).2.1⟩);rw[List.take_length,List.length_map] at o;refine⟨by omega,λi b d=>?_⟩;have u:(x.c i).st=1/\(x.c i).J=0:=by simp [eQ,whB] at d;exact d.2
 have f:=a7b x x.A.length (i::x.D.map Int.toNat) (Nat.le_refl _) (List.nodup_cons.2 ⟨λh=>by have:=(k i h).2.2;omega,p⟩) (λj w=>by grind [a7b,uX.A,dX,eQ])
 rw[List.take_length,List.length_cons,List.length_map] at f;omega
structure Snd(x:Hp):Prop where
 r1:R1 x
 r2:R2 x
 r3:R3 x
 r4:R4 x
 r5:R5 x
 r6:R6 x
 r7:R7 x
 r8:R8 x
theorem dX.snd(h:dX x 0):Snd x:=by
 unfold dX at h;rcases h with h | h | h | h | h | h | h | h | h
 ·have:=h.2;omega
 ·have:=h.2.2;omega
 ·have:=h.2.2.2;omega
 ·have:=h.2.2.2.2;omega
 ·have:=h.2.2.2.2.2;omega
 ·grind [dX]
 ·grind [dX]
 ·grind [dX]
 ·obtain⟨a,b,c,d,e,f,g,i,_⟩:=h;exact⟨a,b,c,d,e,f,g,i⟩
theorem Snd.ok(h:Snd x):dX x 0:=by
 unfold dX;exact .inr (.inr (.inr (.inr (.inr (.inr (.inr (.inr ⟨h.r1,h.r2,h.r3,h.r4,h.r5,h.r6,h.r7,h.r8,rfl⟩)))))))
theorem a6e(x:Hp)(i:Nat)(a:i<x.A.length)(q:Nat):(uD x i).c q=if eQ x i=true/\q=i then tQ (x.c i) else x.c q:=by grind [uX.A,uD,Hp.c,eQ,tQ,Hp.c_set,qC.set]
theorem a3x(cs:List Cl)(i:Nat)(c:Cl)(d:i<cs.length)(b:hV c=hV cs[i]):units (cs.set i c)=units cs:=by
 induction cs generalizing i with
 | nil=>simp at d
 | cons a cs ih=>
  cases i with
  | zero=>simp [units] at b ⊢;exact b
  | succ i=>
   have:=ih i (by simpa using d) (by simpa using b);simp [units] at this ⊢;exact this
theorem cU(x:Hp)(i:Nat):(uD x i).M=x.M/\(uD x i).K=x.K/\(uD x i).born=x.born/\(uD x i).B=x.B/\(uD x i).A.length=x.A.length/\(uD x i).E=x.E/\(uD x i).I=x.I/\(uD x i).sub=x.sub/\(uD x i).per=x.per/\(uD x i).V=x.V/\(uD x i).Q=x.Q/\(uD x i).S=x.S:=by
 unfold uD;split <;> simp
def Cl.un(c:Cl):Cl:={ c with J:=0 }
theorem a3m(x:Hp)(i:Nat)(a:i<x.A.length)(q:Nat):((uD x i).c q).un=(x.c q).un:=by
 rw[a6e x i a q]
 split
 ·rename_i h;rw[h.2];rfl
 ·rfl
theorem dN{c d:Cl}(h:c.un=d.un):c.st=d.st/\c.kind=d.kind/\c.T=d.T/\c.U=d.U/\c.born=d.born/\c.to=d.to/\c.F=d.F:=by grind [Hp.c,Cl.un]
theorem b3h(D:uY x)(z:y.E=x.E)(u:y.I=x.I)(W:y.sub=x.sub)(U:y.born=x.born)(N:y.K=x.K)(G:y.M=x.M)(X:y.B=x.B)(E:y.A.length=x.A.length)(v:∀q,(y.c q).un=(x.c q).un)(n:∀q,q<x.A.length->(y.c q).J=(x.c q).J\/((y.c q).st=1/\0<=(y.c q).J/\(y.c q).J<=2))(F:units y.A=units x.A)(M:R2 x)(L:R3 x)(V:R4 x):R2 y/\R3 y/\R4 y/\R8 y:=by
 have l:x.E≠3:=by rcases D with h | h <;> omega
 have K:∀i,¬uE x i:=λi h=>l h.1
 have f:∀i,¬uE y i:=λi h=>l (by rw[<-z];exact h.1)
 have eN:∀(w:Wd) (m A:Prop),(m->A)->hU x w m->hU y w A:=λw m A T h=>by grind [hU,dN,uY,Hp.c,Cl.un,units,R2,R3,R4,R8]
 have g:∀i k,¬cH x i k->¬cH y i k:=λi k h t=>h ⟨by rw[<-z];exact t.1,λP=>by have:=t.2 (by rw[z];exact P);rw[u,W] at this;exact this⟩
 refine⟨⟨λi d=>?_,λi d B k o u=>?_⟩,⟨by rw[N,F];exact L.1,by rw[N,G];exact L.2⟩,⟨λi d=>?_,λi d=>⟨λh=>f i h.1,λk o=>⟨λh=>(f i h).elim,λ_=>?_⟩⟩⟩,λi d h=>?_⟩
 ·rw[E] at d;obtain⟨j,J,I,H,s,r,e⟩:=dN (v i);rcases M.1 i d with⟨a,b,c⟩ | ⟨a,b⟩ | ⟨a,b⟩
  ·refine .inl ⟨by rw[j];exact a,?_,by rw[r];exact c⟩
   have C:(y.c i).J=(x.c i).J:=by grind [Hp.c,uY,Cl.un,units,R2,R3,R4,R8]
   exact⟨by rw[J];exact b.1,by rw[I];exact b.2.1,by rw[H];exact b.2.2.1,by rw[s];exact b.2.2.2.1,by rw[C];exact b.2.2.2.2.1,by rw[e];exact b.2.2.2.2.2⟩
  ·have:=b.2.1;rcases D with h | h <;> omega
  ·refine .inr (.inr ⟨by rw[j];exact a,by rw[J];exact b.1,by rw[I];exact b.2.1,by rw[H];exact b.2.2.1,by rw[s,U];exact b.2.2.2.1,?_,by rw[r];exact b.2.2.2.2.2.1,by rw[e];exact b.2.2.2.2.2.2⟩);rcases n i d with h | h
   ·rw[h];exact b.2.2.2.2.1
   ·exact h.2
 ·rw[E] at d;obtain⟨j,_,_,_,s,r,_⟩:=dN (v i);obtain⟨R,_,_,_,O,Q,_⟩:=dN (v k);rw[j,s,r,R,O,Q] at u;exact M.2 i d (by rw[<-j];exact B) k o u
 ·grind [uY,Hp.c,Cl.un,units,R2,R3,R4,R8]
 ·rw[E] at d;have e:=(dN (v i)).2.2.2.2.2.2;rw[e] at o;have S:(y.c i).p k=(x.c i).p k:=by simp only [Cl.p,e]
  rw[S];have:=(V.2 i d).2 k o;exact⟨eN _ _ _ (g i k) (this.2 (K i)).1,eN _ _ _ (g i k) (this.2 (K i)).2⟩
 ·rw[z] at h;rcases D with t | t <;> omega
theorem b5j:∀(n:Nat) (L:List Nat),L.Nodup->(∀i,i∈L->i<n)->L.length<=n
 | 0,L,_,h=>by
  cases L with
  | nil=>simp
  | cons a L=>have:=h a (List.mem_cons_self ..);omega
 | n+1,L,hn,h=>by
  by_cases hm:n∈L
  ·have h1:=b5j n (L.erase n) (hn.erase n) (λi hi=>by
    have h2:=h i (List.mem_of_mem_erase hi);have h3:i≠n:=λe=>by rw[e] at hi;exact(List.Nodup.not_mem_erase hn) hi
    omega)
   rw[List.length_erase_of_mem hm] at h1;have h5:0<L.length:=List.length_pos_of_mem hm;omega
  ·have h1:=b5j n L hn (λi hi=>by
    have h2:=h i hi;have h3:i≠n:=λe=>hm (by rw[<-e];exact hi)
    omega)
   omega
theorem a6f{i:Nat}(h:eQ x i=true):uY x/\(x.c i).st=1/\(x.c i).J=0:=by grind [eQ,uY,Hp.c,mkB,whB]
theorem c5z(f:R5 x)(i:Nat)(e:i<x.A.length):(i:Int)∈x.D↔(x.c i).J=1:=by
 have:=f.2.1 i e;constructor
 ·intro h;rcases Int.decEq (x.c i).J 1 with b | d
  ·have a:=this.2.1 b;unfold cnt at a;exact absurd h (List.count_eq_zero.1 a)
  ·exact d
 ·intro h;have a:=this.1 h;unfold cnt at a;exact List.count_pos_iff.1 (by omega)
theorem Snd.shade{x:Hp}(h:Snd x)(i:Nat)(J:i<x.A.length):Snd (uD x i):=by
 by_cases u:eQ x i=true;rotate_left
 ·have:uD x i=x:=by unfold uD;rw[if_neg u]
  rw[this];exact h
 obtain⟨L,W,aa⟩:=a6f u;obtain⟨P,s2,s3,s4,B,G,K,N,s9,V,X,U⟩:=cU x i;have hc:∀q,(uD x i).c q=if q=i then tQ (x.c i) else x.c q:=λq=>by rw[a6e x i J q];simp [u]
 have v:(uD x i).D=x.D++[(i:Int)]:=by unfold uD;rw[if_pos u]
 have ng:¬(i:Int)∈x.D:=λe=>by have:=(c5z h.r5 i J).1 e;omega
 have I:uY (uD x i):=by unfold uY;rw[G];exact L
 have f:∀q,((uD x i).c q).J=if q=i then 1 else (x.c q).J:=λq=>by
  rw[hc q];by_cases e:q=i
  ·rw[if_pos e,if_pos e];rfl
  ·rw[if_neg e,if_neg e]
 have t:=a3m x i J
 have A:units (uD x i).A=units x.A:=by
  have:(uD x i).A=x.A.set i (tQ (x.c i)):=by unfold uD;rw[if_pos u]
  rw[this];refine a3x _ _ _ J ?_;rw[Hp.c_eq x i J];rfl
 obtain⟨q2,q3,q4,q8⟩:=b3h L G K N s3 s2 P s4 B t (λq hq=>by
  rw[f q];by_cases e:q=i
  ·right;rw[if_pos e,(dN (t q)).1,e];exact⟨W,by omega,by omega⟩
  ·left;rw[if_neg e]) A h.r2 h.r3 h.r4
 refine⟨?_,q2,q3,q4,?_,?_,?_,q8⟩
 ·have r:=h.r1
  have S:((x.D++[(i:Int)]).map Int.toNat).Nodup:=by
   unfold List.Nodup;rw[List.pairwise_map];refine List.Pairwise.imp_of_mem (R:=(·≠·)) (λO u T e=>T ?_) ?_
   ·have Z:∀g,g∈x.D++[(i:Int)]->0<=g:=λg v=>by
     rcases List.mem_append.1 v with d | d
     ·exact(h.r5.2.2 g d).1
     ·rw[List.mem_singleton] at d;omega
    have:=Z _ O;have:=Z _ u;omega
   ·rw[List.pairwise_append];exact⟨b4i h.r5,by simp,λa O b u e=>by rw[List.mem_singleton] at u;rw[e,u] at O;exact ng O⟩
  have C:=b5j x.A.length _ S (λj D=>by
   obtain⟨g,z,rfl⟩:=List.mem_map.1 D;rcases List.mem_append.1 z with d | d
   ·have:=h.r5.2.2 g d;omega
   ·rw[List.mem_singleton] at d;omega)
  rw[List.length_map] at C;exact⟨by rw[P];exact r.M,by rw[s4];exact r.B,by rw[B,P];exact r.A,by rw[v,B];exact C,by rw[s3];exact r.born,by rw[X];exact r.Q,by rw[U];exact r.S,by rw[s9];exact r.per,by rw[V];exact r.V,by rw[G];exact r.E,by rw[K,B];exact r.I,by rw[N];exact r.sub⟩
 ·refine⟨λn=>(n I).elim,λj D=>?_,λg z=>?_⟩
  ·rw[B] at D;have r:=h.r5.2.1 j D
   have H:cnt (uD x i).D j=cnt x.D j+if j=i then 1 else 0:=by
    unfold cnt;rw[v,List.count_append];by_cases e:j=i
    ·subst e;simp
    ·rw[if_neg e,List.count_singleton];have:¬((i:Int)=(j:Int)):=by omega
     simp [this]
   unfold eK;rw[H,f j];by_cases e:j=i
   ·subst e;rw[if_pos rfl,if_pos rfl];have:=r.2.1 (by omega);exact⟨λ_=>by omega,λd=>by omega,λd=>by omega⟩
   ·rw[if_neg e,if_neg e];exact⟨λd=>by have:=r.1 d;omega,λd=>by have:=r.2.1 d;omega,λd=>.inl I⟩
  ·rw[v] at z;rw[B];rcases List.mem_append.1 z with d | d
   ·exact h.r5.2.2 g d
   ·rw[List.mem_singleton] at d;omega
 ·have r:=h.r6;unfold R6;rw[G,K,N,B];refine⟨λF=>?_,λF=>⟨(r.2.1 F).1,λm=>?_,λ_=>?_⟩,λF=>?_,r.2.2.2⟩
  ·exact r.1 F
  ·rw[v] at m;simp at m
  ·have M:=λq=>(dN (t q)).2.2.2.2.2.2
   rw[M];rcases Nat.eq_zero_or_pos x.D.length with m | m
   ·have:=(r.2.1 F).2.1 m;omega
   ·have eg:(uD x i).g0=x.g0:=by
     unfold Hp.g0;rw[v];cases E:x.D with
     | nil=>rw[E] at m;simp at m
     | cons a l=>rfl
    rw[eg];exact(r.2.1 F).2.2 (by omega)
  ·rcases L with d | d <;> omega
 ·intro _ j D;rw[B] at D;have r:=h.r7 L j D;have e4:=(dN (t j)).2.2.2.1;have M:=(dN (t j)).2.2.2.2.2.2
  have wh:∀y,hY (uD x i) y->hY x y:=λy Y=>by
   refine⟨Y.1,?_⟩;have:=Y.2;rw[f] at this;by_cases e:y.a.toNat=i
   ·rw[if_pos e] at this;omega
   ·rw[if_neg e] at this;exact this
  refine⟨λo=>r.1 ⟨?_,?_,?_⟩,λk s=>?_⟩
  ·unfold hQ;rw[<-e4];exact o.1
  ·have:=o.2.1;rw[f] at this;by_cases e:j=i
   ·rw[if_pos e] at this;omega
   ·rw[if_neg e] at this;exact this
  ·rw[<-G,<-K];exact o.2.2
  ·have e8:((uD x i).c j).p k=(x.c j).p k:=by simp only [Cl.p,M]
   rw[e8]
   have Q:k<hD x j:=by
    unfold hD at s ⊢;rw[f j,M,G,N] at s;by_cases e:j=i
    ·subst e;rw[if_pos rfl,if_neg (by omega)] at s;rw[if_neg (by omega)]
     split at s
     ·rename_i o;rw[v] at o;rcases Nat.eq_zero_or_pos x.D.length with m | m
      ·have:=(h.r6.2.1 o.1).2.1 m;omega
      ·have:x.D.getD 0 0=(j:Int):=by
        cases E:x.D with
        | nil=>rw[E] at m;simp at m
        | cons a l=>rw[E] at o;simpa using o.2.2
       rw[if_pos ⟨o.1,by omega,this⟩];exact s
     ·omega
    ·rw[if_neg e] at s;by_cases h2:(x.c j).J=2
     ·rw[if_pos h2] at s ⊢;exact s
     ·rw[if_neg h2] at s ⊢
      split at s
      ·rename_i o;rw[v] at o;rcases Nat.eq_zero_or_pos x.D.length with m | m
       ·have:=(h.r6.2.1 o.1).2.1 m;omega
       ·have:x.D.getD 0 0=(j:Int):=by
         cases E:x.D with
         | nil=>rw[E] at m;simp at m
         | cons a l=>rw[E] at o;simpa using o.2.2
        rw[if_pos ⟨o.1,by omega,this⟩];exact s
      ·omega
   have:=r.2 k Q;exact⟨λw=>this.1 (wh _ w),λw=>this.2 (wh _ w)⟩
def cZ(x:Hp)(p h:Int):Hp:={ x with E:=p,I:=h,sub:=0 }
def yZ(c:Cl):Bool:=c.U == 1 || c.U == 2
theorem a7o(c:Cl):yZ c=true↔hQ c:=by simp [yZ,hQ]
def shadeW(x:Hp)(y:Wd):Hp:=if (y.k == 2)=true then uD x y.a.toNat else x
def dC(x:Hp):Hp:=if x.I=x.A.length then cZ x 2 0 else
 let z:=if yZ (x.c x.I.toNat)=true then uD x x.I.toNat else x
 { z with I:=x.I+1 }
def eE(x:Hp):Hp:=x.B.foldl shadeW x
def a1j(c:Cl):Cl:={ c with J:=2 }
def cX(x:Hp):Hp:=
 match x.D with
 | g::G=>
  if x.sub<(x.c g.toNat).F.length then
   let p:=(x.c g.toNat).p x.sub.toNat
   { shadeW (shadeW x p.key) p.val with sub:=x.sub+1 }
  else { x with A:=x.A.set g.toNat (a1j (x.c g.toNat)),D:=G,sub:=0 }
 | []=>if (eE x).D=[] then cZ (eE x) 3 0 else eE x
def dQ(x:Hp)(y:Wd):Prop:=y.k=2->y.a.toNat<x.A.length/\(x.c y.a.toNat).st=1
theorem Snd.shdW(h:Snd x)(y:Wd)(a:dQ x y):Snd (shadeW x y):=by grind [dQ,shadeW,Snd.shade]
theorem a0b(x:Hp)(y:Wd):(shadeW x y).B=x.B/\(shadeW x y).A.length=x.A.length/\(shadeW x y).E=x.E/\(shadeW x y).I=x.I/\(shadeW x y).sub=x.sub:=by grind [shadeW,uX.A,cU]
theorem a3d(x:Hp)(y:Wd)(a:dQ x y)(q:Nat):((shadeW x y).c q).un=(x.c q).un:=by grind [dQ,shadeW,Hp.c,Cl.un,a3m]
theorem dQ.keep{y:Wd}(h:dQ x y)(d:z.A.length=x.A.length)(b:∀q,(z.c q).un=(x.c q).un):dQ z y:=λa=>⟨by rw[d];exact(h a).1,by rw[(dN (b _)).1];exact(h a).2⟩
theorem a2c(x:Hp)(i:Nat)(a:i<x.A.length)(b:uY x)(d:(x.c i).st=1):((uD x i).c i).J≠0:=by grind [uX.A,uY,Hp.c,uD,a6e,eQ,tQ,mkB,whB]
theorem c4j(x:Hp)(i:Nat)(a:i<x.A.length)(q:Nat)(h:(x.c q).J≠0):((uD x i).c q).J≠0:=by grind [uX.A,Hp.c,uD,a6e,tQ]
theorem b2f(x:Hp)(y:Wd)(b:dQ x y)(a:uY x):¬hY (shadeW x y) y:=by grind [dQ,uY,hY,shadeW,a2c]
theorem b3i(x:Hp)(y:Wd)(a:dQ x y)(q:Nat)(h:(x.c q).J≠0):((shadeW x y).c q).J≠0:=by grind [dQ,Hp.c,shadeW,c4j]
theorem Snd.good_pair(h:Snd x)(b:uY x)(i k:Nat)(l:i<x.A.length)(m:k<(x.c i).F.length):dQ x ((x.c i).p k).key/\dQ x ((x.c i).p k).val:=by
 have g:¬uE x i:=λd=>by have:=d.1;rcases b with a | a <;> omega
 have r:=((h.r4.2 i l).2 k m).2 g;have e:cH x i k:=⟨by rcases b with a | a <;> omega,λo=>by rcases b with a | a <;> omega⟩
 have f:∀y,hU x y (¬cH x i k)->dQ x y:=λy n j=>by grind [hU,cH,dQ,uW,uX.A,uY,Hp.c,Cl.p]
 exact⟨f _ r.1,f _ r.2⟩
theorem Snd.good_reg(h:Snd x)(i:Nat)(b:i<x.B.length):dQ x x.B[i]:=λa=>by
 have r:=h.r4.1 i b;rcases r.2 a with⟨_,h2⟩ | ⟨h1,_⟩
 ·exact h2.elim
 ·refine⟨?_,h1⟩;rcases r.1 with f | f | f <;> omega
theorem Snd.I(h:Snd x)(y:uY x)(p j l:Int)(z:p=1\/p=2)(E:0<=j/\j<=x.A.length)(C:0<=l/\l<=200)(D:R6 { x with E:=p,I:=j,sub:=l })(B:R7 { x with E:=p,I:=j,sub:=l }):Snd { x with E:=p,I:=j,sub:=l }:=by
 have r:=h.r1;have np:p≠3/\p≠4/\p≠5/\p≠6:=by omega
 have s:x.E≠3/\x.E≠4/\x.E≠5/\x.E≠6:=by rcases y with t | t <;> omega
 have eN:∀(w:Wd) (m q:Prop),(m->q)->hU x w m->hU { x with E:=p,I:=j,sub:=l } w q:=λw m q u v=>by
  refine⟨v.1,λo=>?_⟩;rcases v.2 o with⟨a,b⟩ | ⟨a,_⟩
  ·exact .inl ⟨a,u b⟩
  ·exact .inr ⟨a,λd=>np.1 d.1⟩
 have f:∀i k,cH x i k:=λi k=>⟨s.2.1,λe=>(s.2.2.1 e).elim⟩
 have A:∀i,¬uE x i:=λi d=>s.1 d.1
 refine⟨⟨r.M,r.B,r.A,r.D,r.born,r.Q,r.S,r.per,r.V,by show 0<=p/\p<=6;omega,E,C⟩,⟨λi g=>?_,h.r2.2⟩,h.r3,⟨λi g=>eN _ _ _ id (h.r4.1 i g),λi g=>⟨λd=>np.1 d.1.1,λk o=>⟨λd=>(np.1 d.1).elim,λ_=>?_⟩⟩⟩,⟨λn=>(n z).elim,λi g=>?_,h.r5.2.2⟩,D,B,λi g e=>np.2.2.2 e.1⟩
 ·rcases h.r2.1 i g with a | ⟨_,b⟩ | a
  ·exact .inl a
  ·have:=b.2.1;rcases y with t | t <;> omega
  ·exact .inr (.inr a)
 ·have:=((h.r4.2 i g).2 k o).2 (A i);exact⟨eN _ _ _ (λe=>(e (f i k)).elim) this.1,eN _ _ _ (λe=>(e (f i k)).elim) this.2⟩
 ·have c:=h.r5.2.1 i g;exact⟨c.1,c.2.1,λ_=>.inl z⟩
theorem Snd.u1(h:Snd x)(u:x.E=1):Snd (dC x):=by
 unfold Go.Proofs.YtddkhnclmeikfaaGreat.dC;have m:uY x:=.inl u;have t:x.sub=0:=h.r6.2.2.2 (.inl u)
 split
 ·rename_i G;refine h.I m 2 0 0 (.inr rfl) ⟨by omega,by omega⟩ ⟨by omega,by omega⟩ ?_ ?_
  ·refine⟨λe=>?_,λ_=>⟨rfl,λ_=>rfl,λ_=>?_⟩,λe=>?_,λe=>?_⟩
   ·grind [dC]
   ·show(0:Int)<=_;omega
   ·grind [dC]
   ·grind [dC]
  ·intro _ i o;have r:=h.r7 m i o;refine⟨λe=>r.1 ⟨e.1,e.2.1,.inr ?_⟩,λk s=>r.2 k ?_⟩
   ·have:i<x.A.length:=o;omega
   ·grind [hD,Hp.c,Snd.I,dC]
 ·rename_i v;have F:=h.r1.I;obtain⟨i,o⟩:∃i:Nat,x.I=(i:Int):=⟨x.I.toNat,by omega⟩;have g:i<x.A.length:=by omega
  have D:x.I.toNat=i:=by omega
  rw[D];obtain⟨z,p⟩:∃z,z=(if yZ (x.c i)=true then uD x i else x):=⟨_,rfl⟩;have n:Snd z:=by rw[p];split;exact h.shade i g;exact h
  have f:z.E=x.E/\z.I=x.I/\z.sub=x.sub/\z.A.length=x.A.length:=by grind [Snd.I,uX.A,cU,dC]
  have y:hQ (z.c i)->(z.c i).J≠0:=by
   rw[p]
   split
   ·rename_i e
    have C:(x.c i).st=1:=by
     have l:=(a7o _).1 e;rcases h.r2.1 i g with⟨_,b,_⟩ | ⟨_,b⟩ | ⟨a,_⟩
     ·have:=b.2.2.1;rcases l with q | q <;> omega
     ·have:=b.1.2.2.1;rcases l with q | q <;> omega
     ·exact a
    exact λ_=>a2c x i g m C
   ·grind [a7o,dC]
  suffices hgoal:Snd { z with I:=x.I+1 } by rw[p] at hgoal;exact hgoal
  have d:uY z:=by unfold uY;rw[f.1];exact m
  have B:({ z with I:=x.I+1 }:Hp)={ z with E:=z.E,I:=x.I+1,sub:=z.sub }:=rfl;rw[B];refine n.I d z.E (x.I+1) z.sub d ⟨by omega,by rw[f.2.2.2];omega⟩ ⟨by have:=n.r1.sub;omega,by have:=n.r1.sub;omega⟩ ?_ ?_
  ·refine⟨λe=>?_,λe=>?_,λe=>?_,λ_=>?_⟩
   ·grind [dC]
   ·grind [dC]
   ·grind [dC]
   ·grind [dC]
  ·intro _ j E;have r:=n.r7 d j E;refine⟨λe=>?_,λk s=>r.2 k s⟩;have A:z.E=2\/(j:Int)<x.I+1:=e.2.2;by_cases w:j=i
   ·subst w;exact y e.1 e.2.1
   ·refine r.1 ⟨e.1,e.2.1,?_⟩;rcases A with q | q
    ·exact .inl q
    ·right;rw[f.2.1];omega
structure Shd(x z:Hp):Prop where
 s:Snd z
 B:z.B=x.B
 len:z.A.length=x.A.length
 E:z.E=x.E
 I:z.I=x.I
 sub:z.sub=x.sub
 un:∀q,(z.c q).un=(x.c q).un
 mono:∀q,(x.c q).J≠0->(z.c q).J≠0
 D:∃L,z.D=x.D++L
theorem Shd.refl(h:Snd x):Shd x x:=⟨h,rfl,rfl,rfl,rfl,rfl,λ_=>rfl,λ_ h=>h,[],by simp⟩
theorem b3j(x:Hp)(y:Wd):∃L,(shadeW x y).D=x.D++L:=by
 unfold shadeW uD
 split
 ·split
  ·exact⟨_,rfl⟩
  ·exact⟨[],by simp⟩
 ·exact⟨[],by simp⟩
theorem Shd.step(h:Shd x z)(y:Wd)(l:dQ x y):Shd x (shadeW z y)/\(uY x->¬hY (shadeW z y) y):=by
 have a:dQ z y:=l.keep h.len h.un;obtain⟨d,g,b,i,c⟩:=a0b z y;obtain⟨L,f⟩:=h.D;obtain⟨M,j⟩:=b3j z y;refine⟨⟨h.s.shdW y a,d.trans h.B,g.trans h.len,b.trans h.E,i.trans h.I,c.trans h.sub,λq=>(a3d z y a q).trans (h.un q),λq k=>b3i z y a q (h.mono q k),L++M,by rw[j,f,List.append_assoc]⟩,λe=>b2f z y a (by unfold uY;rw[h.E];exact e)⟩
theorem b5k{y u:Wd}(a:dQ z y)(h:¬hY z u):¬hY (shadeW z y) u:=by grind [dQ,hY,shadeW,Hp.c,b3i]
theorem Shd.fold{x:Hp}(hm:uY x):∀(ys:List Wd) (z:Hp),(∀y,y∈ys->dQ x y)->Shd x z->Shd x (ys.foldl shadeW z)/\(∀y,y∈ys->¬hY (ys.foldl shadeW z) y)/\∀u,¬hY z u->¬hY (ys.foldl shadeW z) u
 | [],z,_,h=>⟨h,λy hy=>(by cases hy),λ_ h=>h⟩
 | y::ys,z,hg,h=>by
  have st:=h.step y (hg y (List.mem_cons_self ..));obtain⟨q1,q2,q3⟩:=Shd.fold hm ys (shadeW z y) (λu hu=>hg u (List.mem_cons_of_mem _ hu)) st.1;have hz:dQ z y:=(hg y (List.mem_cons_self ..)).keep h.len h.un;refine⟨q1,λu hu=>?_,λu hu=>q3 u (b5k hz hu)⟩;rcases List.mem_cons.1 hu with e | e
  ·rw[e];exact q3 y (st.2 hm)
  ·exact q2 u e
theorem b5m(h:∀q,(z.c q).un=(x.c q).un)(q:Nat):(z.c q).F=(x.c q).F:=(dN (h q)).2.2.2.2.2.2
theorem b9e(h:∀q,(z.c q).un=(x.c q).un)(q k:Nat):(z.c q).p k=(x.c q).p k:=by simp only [Cl.p,b5m h q]
theorem Snd.u2a(h:Snd x)(X:x.E=2)(g:Int)(G:List Int)(F:x.D=g::G)(Y:x.sub<(x.c g.toNat).F.length):Snd { shadeW (shadeW x ((x.c g.toNat).p x.sub.toNat).key) ((x.c g.toNat).p x.sub.toNat).val with sub:=x.sub+1 }:=by
 have t:uY x:=.inr X;have K:=h.r5.2.2 g (by rw[F];exact List.mem_cons_self ..);have P:=h.r1.sub;have A:g.toNat<x.A.length:=by omega
 have I:x.sub.toNat<(x.c g.toNat).F.length:=by omega
 obtain⟨E,u⟩:=h.good_pair t g.toNat x.sub.toNat A I;obtain⟨p,m⟩:∃p,p=(x.c g.toNat).p x.sub.toNat:=⟨_,rfl⟩;rw[<-m] at E u ⊢;have o:=(Shd.refl h).step p.key E;have a:=o.1.step p.val u;have D:¬hY (shadeW (shadeW x p.key) p.val) p.key:=b5k (u.keep o.1.len o.1.un) (o.2 t);have w:=a.2 t;obtain⟨z,M⟩:∃z,z=shadeW (shadeW x p.key) p.val:=⟨_,rfl⟩;rw[<-M] at a D w ⊢;obtain⟨a,_⟩:=a;obtain⟨L,J⟩:=a.D;have i:z.D=g::(G++L):=by rw[J,F];rfl
 have l:uY z:=by unfold uY;rw[a.E];exact t
 have W:=a.s.r6;have v:=h.ok.p200 g.toNat A;have R:({ z with sub:=x.sub+1 }:Hp)={ z with E:=z.E,I:=z.I,sub:=x.sub+1 }:=rfl;rw[R];refine a.s.I l z.E z.I (x.sub+1) l a.s.r1.I ⟨by omega,by omega⟩ ?_ ?_
 ·refine⟨λe=>?_,λe=>⟨(W.2.1 e).1,λS=>?_,λ_=>?_⟩,λe=>?_,λe=>?_⟩
  ·have f:z.E=0\/z.E=4:=e;rw[a.E] at f;omega
  ·have f:z.D.length=0:=S;rw[i] at f;simp at f
  ·have:({ z with E:=z.E,I:=z.I,sub:=x.sub+1 }:Hp).g0=g.toNat:=by unfold Hp.g0;show(z.D.getD 0 0).toNat=_;rw[i];rfl
   rw[this];show x.sub+1<=((z.c g.toNat).F.length:Int);rw[b5m a.un];omega
  ·have f:z.E=5:=e;rw[a.E] at f;omega
  ·have f:z.E=1\/z.E=3\/z.E=6:=e;rw[a.E] at f;omega
 ·intro _ j U;have r:=a.s.r7 l j U;refine⟨λe=>r.1 e,λk n=>?_⟩;have d:∀y,hY ({ z with E:=z.E,I:=z.I,sub:=x.sub+1 }:Hp) y->hY z y:=λy H=>H
  have key:k<hD z j\/(j=g.toNat/\k=x.sub.toNat):=by
   unfold hD at n ⊢;have b:k<if (z.c j).J=2 then (z.c j).F.length else if z.E=2/\z.D.length≠0/\z.D.getD 0 0=(j:Int) then (x.sub+1).toNat else 0:=n
   by_cases C:(z.c j).J=2
   ·rw[if_pos C] at b ⊢;exact .inl b
   ·rw[if_neg C] at b ⊢
    split at b
    ·rename_i B;rw[if_pos B];have O:j=g.toNat:=by have:=B.2.2;rw[i] at this;simp at this;omega
     rw[a.sub];by_cases Q:k=x.sub.toNat
     ·exact .inr ⟨O,Q⟩
     ·left;omega
    ·omega
  rcases key with q | ⟨V,N⟩
  ·exact⟨λe=>(r.2 k q).1 (d _ e),λe=>(r.2 k q).2 (d _ e)⟩
  ·subst V N
   have T:(({ z with E:=z.E,I:=z.I,sub:=x.sub+1 }:Hp).c g.toNat).p x.sub.toNat=p:=by
    show(z.c g.toNat).p x.sub.toNat=p;rw[b9e a.un,<-m]
   rw[T];exact⟨λe=>D (d _ e),λe=>w (d _ e)⟩
theorem Snd.u2b(h:Snd x)(N:x.E=2)(g:Int)(G:List Int)(D:x.D=g::G)(hs:¬x.sub<(x.c g.toNat).F.length):Snd { x with A:=x.A.set g.toNat (a1j (x.c g.toNat)),D:=G,sub:=0 }:=by
 have Q:uY x:=.inr N;have J:g∈x.D:=by rw[D];exact List.mem_cons_self ..
 have aa:=h.r5.2.2 g J;have T:g.toNat<x.A.length:=by omega
 have eg:((g.toNat:Nat):Int)=g:=by omega
 have W:=b1k h.r2 h.r5 g J
 have Z:x.sub=((x.c g.toNat).F.length:Int):=by
  have:=(h.r6.2.1 N).2.2 (by rw[D];simp);have e:x.g0=g.toNat:=by unfold Hp.g0;rw[D];rfl
  rw[e] at this;omega
 obtain⟨y,v⟩:∃y:Hp,y={ x with A:=x.A.set g.toNat (a1j (x.c g.toNat)),D:=G,sub:=0 }:=⟨_,rfl⟩
 have Y:∀q,y.c q=if q=g.toNat then a1j (x.c g.toNat) else x.c q:=λq=>by
  have:=Hp.c_set x g.toNat (a1j (x.c g.toNat)) T q;rw[v];exact this
 have t:y.A.length=x.A.length:=by rw[v];simp
 have C:y.E=x.E:=by rw[v]
 have F:y.I=x.I:=by rw[v]
 have H:y.D=G:=by rw[v]
 have A:y.sub=0:=by rw[v]
 have f:y.M=x.M/\y.K=x.K/\y.born=x.born/\y.B=x.B/\y.per=x.per/\y.V=x.V/\y.Q=x.Q/\y.S=x.S:=by rw[v];exact⟨rfl,rfl,rfl,rfl,rfl,rfl,rfl,rfl⟩
 have s:∀q,(y.c q).un=(x.c q).un:=λq=>by
  rw[Y q];by_cases e:q=g.toNat
  ·rw[if_pos e,e];rfl
  ·rw[if_neg e]
 have p:∀q,(y.c q).J=if q=g.toNat then 2 else (x.c q).J:=λq=>by
  rw[Y q];by_cases e:q=g.toNat
  ·rw[if_pos e,if_pos e];rfl
  ·rw[if_neg e,if_neg e]
 have B:units y.A=units x.A:=by
  have:y.A=x.A.set g.toNat (a1j (x.c g.toNat)):=by rw[v]
  rw[this];exact a3x _ _ _ T (by rw[Hp.c_eq x _ T];rfl)
 rw[<-v];obtain⟨z,l⟩:∃z:Hp,z={ x with sub:=0 }:=⟨_,rfl⟩;have O:∀q,z.c q=x.c q:=λq=>by rw[l];rfl
 have h2:R2 z:=by rw[l];exact h.r2
 have h3:R3 z:=by rw[l];exact h.r3
 have h4:R4 z:=by
  have K:∀i k,¬cH x i k->¬cH z i k:=λi k e e'=>e ⟨by have:=e'.1;rw[l] at this;exact this,λh5=>by omega⟩
  have eN:∀(w:Wd) (m S:Prop),(m->S)->hU x w m->hU z w S:=λw m S X t=>by
   refine⟨by rw[l];exact t.1,λo=>?_⟩;rw[O];rcases t.2 o with⟨a,b⟩ | ⟨a,_⟩
   ·exact .inl ⟨a,X b⟩
   ·exact .inr ⟨a,λd=>by have:=d.1;rw[l] at this;have:x.E=3:=this;omega⟩
  have nd:∀i,¬uE z i:=λi d=>by have:=d.1;rw[l] at this;have:x.E=3:=this;omega
  refine⟨λi E=>?_,λi E=>⟨λd=>nd i d.1,λk o=>⟨λd=>(nd i d).elim,λ_=>?_⟩⟩⟩
  ·have e:z.B=x.B:=by rw[l]
   have V:i<x.B.length:=by rw[<-e];exact E
   have e2:z.B[i]=x.B[i]:=by simp [e]
   rw[e2];exact eN _ _ _ id (h.r4.1 i V)
  ·rw[O] at o ⊢
   have:=((h.r4.2 i (by
    have e:z.A=x.A:=by rw[l]
    rw[<-e];exact E)).2 k o).2 (λd=>by have:=d.1;omega)
   exact⟨eN _ _ _ (K i k) this.1,eN _ _ _ (K i k) this.2⟩
 have U:uY z:=by rw[l];exact Q
 obtain⟨q2,q3,q4,q8⟩:=b3h (x:=z) (y:=y) U (by rw[C,l]) (by rw[F,l]) (by rw[A,l]) (by rw[f.2.2.1,l]) (by rw[f.2.1,l]) (by rw[f.1,l]) (by rw[f.2.2.2.1,l]) (by rw[t,l]) (λq=>by rw[O];exact s q) (λq hq=>by
  rw[O,p q];by_cases e:q=g.toNat
  ·right;rw[if_pos e,(dN (s q)).1,e];exact⟨W.2,by omega,by omega⟩
  ·left;rw[if_neg e]) (by rw[B,l]) h2 h3 h4
 have I:uY y:=by unfold uY;rw[C];exact Q
 have cg:∀j:Nat,cnt x.D j=cnt G j+if j=g.toNat then 1 else 0:=λj=>by
  unfold cnt;rw[D,List.count_cons];by_cases e:j=g.toNat
  ·subst e;rw[if_pos rfl];simp [eg]
  ·rw[if_neg e];have:¬g=(j:Int):=by omega
   simp [this]
 refine⟨?_,q2,q3,q4,⟨λn=>(n I).elim,λj M=>?_,λk o=>?_⟩,?_,?_,q8⟩
 ·have r:=h.r1;have r4:=r.D;rw[D] at r4;simp at r4;exact⟨by rw[f.1];exact r.M,by rw[f.2.2.2.1];exact r.B,by rw[t,f.1];exact r.A,by rw[H,t];omega,by rw[f.2.2.1];exact r.born,by rw[f.2.2.2.2.2.2.1];exact r.Q,by rw[f.2.2.2.2.2.2.2];exact r.S,by rw[f.2.2.2.2.1];exact r.per,by rw[f.2.2.2.2.2.1];exact r.V,by rw[C];exact r.E,by rw[F,t];exact r.I,by rw[A];omega⟩
 ·rw[t] at M;have r:=h.r5.2.1 j M;have c:=cg j;unfold eK;rw[p j,H];by_cases e:j=g.toNat
  ·subst e;rw[if_pos rfl] at c ⊢;have:=r.1 W.1;exact⟨λP=>by omega,λ_=>by omega,λ_=>.inl I⟩
  ·rw[if_neg e] at c ⊢;exact⟨λP=>by have:=r.1 P;omega,λP=>by have:=r.2.1 P;omega,λ_=>.inl I⟩
 ·rw[H] at o;rw[t];exact h.r5.2.2 k (by rw[D];exact List.mem_cons_of_mem _ o)
 ·unfold R6;rw[C,F,A];refine⟨λe=>by omega,λ_=>⟨(h.r6.2.1 N).1,λ_=>rfl,λ_=>by omega⟩,λe=>by omega,λe=>by omega⟩
 ·intro _ j M;rw[t] at M;have r:=h.r7 Q j M
  have wh:∀u,hY y u->hY x u:=λu hw=>by
   refine⟨hw.1,?_⟩;have:=hw.2;rw[p] at this;by_cases e:u.a.toNat=g.toNat
   ·rw[if_pos e] at this;omega
   ·rw[if_neg e] at this;exact this
  refine⟨λe=>r.1 ⟨?_,?_,.inl N⟩,λk o=>?_⟩
  ·unfold hQ;rw[<-(dN (s j)).2.2.2.1];exact e.1
  ·have:=e.2.1;rw[p] at this;by_cases L:j=g.toNat
   ·rw[if_pos L] at this;omega
   ·rw[if_neg L] at this;exact this
  ·rw[b9e s]
   have R:k<hD x j:=by
    unfold hD at o ⊢;rw[p j,b5m s,A] at o;by_cases L:j=g.toNat
    ·subst L;rw[if_pos rfl,if_pos rfl] at o;rw[if_neg (by have:=W.1;omega),if_pos ⟨N,by rw[D];simp,by rw[D];simp [eg]⟩];omega
    ·rw[if_neg L] at o;by_cases c2:(x.c j).J=2
     ·rw[if_pos c2] at o ⊢;exact o
     ·rw[if_neg c2] at o
      split at o
      ·simp at o
      ·omega
   have:=r.2 k R;exact⟨λw=>this.1 (wh _ w),λw=>this.2 (wh _ w)⟩
theorem Snd.look(h:Snd x)(j:x.E=2):Shd x (eE x)/\∀i (a:i<x.B.length),¬hY (eE x) x.B[i]:=by
 have c:uY x:=.inr j
 have d:∀y,y∈x.B->dQ x y:=λy b=>by
  obtain⟨i,a,e⟩:=List.getElem_of_mem b;rw[<-e];exact h.good_reg i a
 obtain⟨f,g,_⟩:=Shd.fold c x.B x d (Shd.refl h);exact⟨f,λi a=>g _ (List.getElem_mem a)⟩
theorem Snd.ended(h:Snd x)(G:x.E=2)(F:x.D=[])(Q:∀i (f:i<x.B.length),¬hY x x.B[i]):Snd (cZ x 3 0):=by
 have t:uY x:=.inr G;obtain⟨y,j⟩:∃y,y=cZ x 3 0:=⟨_,rfl⟩;have p:∀q,y.c q=x.c q:=λq=>by rw[j];rfl
 have n:y.A=x.A:=by rw[j];rfl
 have K:y.E=3:=by rw[j];rfl
 have L:y.I=0:=by rw[j];rfl
 have I:y.sub=0:=by rw[j];rfl
 have A:y.B=x.B:=by rw[j];rfl
 have z:y.D=[]:=by rw[j];exact F
 have y1:y.M=x.M/\y.K=x.K/\y.born=x.born/\y.per=x.per/\y.V=x.V/\y.Q=x.Q/\y.S=x.S:=by rw[j];exact⟨rfl,rfl,rfl,rfl,rfl,rfl,rfl⟩
 rw[<-j]
 have v:∀i,i<x.A.length->(x.c i).J≠1:=λi f e=>by
  have:=(h.r5.2.1 i f).1 e;rw[F] at this;simp [cnt] at this
 have E:∀i,uE y i↔(x.c i).st=1/\(x.c i).J=0:=λi=>by grind [uE,Hp.c,hY,cZ]
 have eN:∀u,dQ x u->uW u x.A.length->¬hY x u->∀m,hU y u m:=λu O R H m=>by grind [dQ,uW,uX.A,hY,hU,cZ]
 have r:=h.r1;refine⟨⟨by rw[y1.1];exact r.M,by rw[A];exact r.B,by rw[n,y1.1];exact r.A,by rw[z];simp,by rw[y1.2.2.1];exact r.born,by rw[y1.2.2.2.2.2.1];exact r.Q,by rw[y1.2.2.2.2.2.2];exact r.S,by rw[y1.2.2.2.1];exact r.per,by rw[y1.2.2.2.2.1];exact r.V,by rw[K];omega,by rw[L];omega,by rw[I];omega⟩,⟨λi f=>?_,λi f=>?_⟩,⟨by rw[y1.2.1,n];exact h.r3.1,by rw[y1.2.1,y1.1];exact h.r3.2⟩,⟨λi f=>?_,λi f=>⟨λe=>?_,λk l=>⟨λd=>?_,λd=>?_⟩⟩⟩,⟨λ_=>by rw[z];rfl,λi f=>?_,λg s=>by rw[z] at s;cases s⟩,?_,λe=>?_,λi f e=>by have:=e.1;omega⟩
 ·rw[n] at f;unfold hJ;rw[p];rcases h.r2.1 i f with a | ⟨_,b⟩ | ⟨a,b⟩
  ·exact .inl a
  ·have:=b.2.1;omega
  ·exact .inr (.inr ⟨a,b.1,b.2.1,b.2.2.1,by rw[y1.2.2.1];exact b.2.2.2.1,b.2.2.2.2⟩)
 ·rw[n] at f;rw[p];intro B k l;rw[p];exact h.r2.2 i f B k l
 ·have o:i<x.B.length:=by rw[<-A];exact f
  have M:y.B[i]=x.B[i]:=by simp [A]
  rw[M];exact eN _ (h.good_reg i o) (h.r4.1 i o).1 (Q i o) _
 ·rw[n] at f;have d:=(E i).1 e.1;have N:hQ (x.c i):=by have:=e.2;rw[p] at this;exact this
  exact(h.r7 t i f).1 ⟨N,d.2,.inl G⟩
 ·rw[n] at f;rw[p] at l ⊢;have:=((h.r4.2 i f).2 k l).2 (λd=>by have:=d.1;omega);rw[n];exact⟨this.1.1,this.2.1⟩
 ·rw[n] at f;rw[p] at l ⊢;have P:¬((x.c i).st=1/\(x.c i).J=0):=λe=>d ((E i).2 e)
  have C:=((h.r4.2 i f).2 k l).2 (λd=>by have:=d.1;omega);have D:=h.good_pair t i k f l
  have w:(x.c i).J=2:=by
   rcases h.r2.1 i f with⟨_,b,_⟩ | ⟨_,b⟩ | ⟨a,b⟩
   ·have:=b.2.2.2.2.2;omega
   ·have:=b.2.1;omega
   ·have:=b.2.2.2.2.1;have:=v i f;have:(x.c i).J≠0:=λe=>P ⟨a,e⟩
    omega
  have J:k<hD x i:=by unfold hD;rw[if_pos w];exact l
  have:=(h.r7 t i f).2 k J;exact⟨eN _ D.1 C.1.1 this.1 _,eN _ D.2 C.2.1 this.2 _⟩
 ·grind [eK,cnt,hY,cZ]
 ·grind [R6,hY,cZ]
 ·exfalso;rcases e with e | e <;> omega
theorem Snd.u2(h:Snd x)(c:x.E=2):Snd (cX x):=by
 unfold cX
 split
 ·grind [Snd.u2a,Snd.u2b,cX]
 ·have a:=h.look c
  split
  ·rename_i e;refine a.1.s.ended (by rw[a.1.E];exact c) e (λi d=>?_);have b:i<x.B.length:=by rw[<-a.1.B];exact d
   have f:(eE x).B[i]=x.B[i]:=by simp [a.1.B]
   rw[f];exact a.2 i b
  ·exact a.1.s
def qX(c:Cl):Cl:={ c with J:=0 }
def cY(x:Hp):Hp:=if x.I=x.A.length then cZ x 4 0 else
 if whB (x.c x.I.toNat)=true then { x with K:=x.K-(1+(x.c x.I.toNat).F.length),A:=x.A.set x.I.toNat Cl0,I:=x.I+1 }
 else { x with A:=x.A.set x.I.toNat (qX (x.c x.I.toNat)),I:=x.I+1 }
theorem a2e(cs:List Cl)(i:Nat)(c:Cl)(b:i<cs.length):units (cs.set i c)+hV cs[i]=units cs+hV c:=by
 induction cs generalizing i with
 | nil=>simp at b
 | cons a cs ih=>
  cases i with
  | zero=>simp [units];omega
  | succ i=>
   have:=ih i (by simpa using b);simp [units] at this ⊢;omega
theorem Snd.u3end(h:Snd x)(P:x.E=3)(O:x.I=x.A.length):Snd (cZ x 4 0):=by
 have v:x.D.length=0:=h.r5.1 (λe=>by rcases e with e | e <;> omega);have G:x.D=[]:=List.eq_nil_of_length_eq_zero v;obtain⟨y,l⟩:∃y,y=cZ x 4 0:=⟨_,rfl⟩;have p:∀q,y.c q=x.c q:=λq=>by rw[l];rfl
 have n:y.A=x.A:=by rw[l];rfl
 have L:y.E=4:=by rw[l];rfl
 have M:y.I=0:=by rw[l];rfl
 have J:y.sub=0:=by rw[l];rfl
 have D:y.B=x.B:=by rw[l];rfl
 have t:y.D=[]:=by rw[l];exact G
 have y1:y.M=x.M/\y.K=x.K/\y.born=x.born/\y.per=x.per/\y.V=x.V/\y.Q=x.Q/\y.S=x.S:=by rw[l];exact⟨rfl,rfl,rfl,rfl,rfl,rfl,rfl⟩
 rw[<-l];have C:∀i,¬uE y i:=λi d=>by have:=d.1;omega
 have z:∀i,i<x.A.length->¬uE x i:=λi j d=>by have:=d.2.1;omega
 have F:∀i,i<x.A.length->(x.c i).st≠2:=λi j e=>by
  rcases h.r2.1 i j with⟨a,_⟩ | ⟨_,b⟩ | ⟨a,_⟩
  ·omega
  ·have:=b.2.1;omega
  ·omega
 have r:=h.r1
 have eN:∀u m I,hU x u m->hU y u I:=λu m I A=>by
  refine⟨by rw[n];exact A.1,λo=>.inr ⟨?_,C _⟩⟩;rw[p];have w:u.a.toNat<x.A.length:=by rcases A.1 with f | f | f <;> omega
  rcases A.2 o with⟨a,_⟩ | ⟨a,_⟩
  ·exact(F _ w a).elim
  ·exact a
 refine⟨⟨by rw[y1.1];exact r.M,by rw[D];exact r.B,by rw[n,y1.1];exact r.A,by rw[t];simp,by rw[y1.2.2.1];exact r.born,by rw[y1.2.2.2.2.2.1];exact r.Q,by rw[y1.2.2.2.2.2.2];exact r.S,by rw[y1.2.2.2.1];exact r.per,by rw[y1.2.2.2.2.1];exact r.V,by rw[L];omega,by rw[M];omega,by rw[J];omega⟩,⟨λi j=>?_,λi j=>?_⟩,⟨by rw[y1.2.1,n];exact h.r3.1,by rw[y1.2.1,y1.1];exact h.r3.2⟩,⟨λi j=>?_,λi j=>⟨λe=>C i e.1,λk o=>⟨λd=>(C i d).elim,λd=>?_⟩⟩⟩,⟨λ_=>by rw[t];rfl,λi j=>?_,λg s=>by rw[t] at s;cases s⟩,?_,λe=>?_,λi j e=>by have:=e.1;omega⟩
 ·rw[n] at j;unfold hJ;rw[p];rcases h.r2.1 i j with a | ⟨_,b⟩ | ⟨a,b⟩
  ·exact .inl a
  ·have:=b.2.1;omega
  ·exact .inr (.inr ⟨a,b.1,b.2.1,b.2.2.1,by rw[y1.2.2.1];exact b.2.2.2.1,b.2.2.2.2⟩)
 ·rw[n] at j;rw[p];intro E k o;rw[p];exact h.r2.2 i j E k o
 ·have B:i<x.B.length:=by rw[<-D];exact j
  have N:y.B[i]=x.B[i]:=by simp [D]
  rw[N];exact eN _ _ _ (h.r4.1 i B)
 ·rw[n] at j;rw[p] at o ⊢;have H:=((h.r4.2 i j).2 k o).2 (z i j);exact⟨eN _ _ _ H.1,eN _ _ _ H.2⟩
 ·rw[n] at j;have c:=h.r5.2.1 i j
  have K:(x.c i).J≠2:=λe=>by
   rcases c.2.2 e with m | m
   ·rcases m with m | m <;> omega
   ·have:=m.2;omega
  unfold eK;rw[p,t];refine⟨λe=>?_,λ_=>by simp [cnt],λe=>(K e).elim⟩;have:=c.1 e;rw[G] at this;simp [cnt] at this
 ·grind [R6,cZ]
 ·exfalso;rcases e with e | e <;> omega
theorem b4e(c:Cl):whB c=true↔c.st=1/\c.J=0:=by simp [whB]
theorem Snd.nogray(h:Snd x)(a:¬uY x):x.D=[]:=List.eq_nil_of_length_eq_zero (h.r5.1 a)
theorem Snd.nomoved(h:Snd x)(f:x.E<4)(i:Nat)(d:i<x.A.length):(x.c i).st≠2:=λe=>by
 rcases h.r2.1 i d with⟨a,_⟩ | ⟨_,b⟩ | ⟨a,_⟩
 ·omega
 ·have:=b.2.1;omega
 ·omega
theorem Snd.u3cell(h:Snd x)(hp:x.E=3)(i:Nat)(hi:x.I=(i:Int))(B:i<x.A.length)(t:Cl)(D:Int)(E:(t=Cl0/\whB (x.c i)=true/\D=x.K-(1+(x.c i).F.length))\/(t=qX (x.c i)/\¬whB (x.c i)=true/\D=x.K)):
  Snd { x with K:=D,A:=x.A.set i t,I:=x.I+1 }:=by
 have V:=h.nogray (λe=>by rcases e with e | e <;> omega);obtain⟨y,v⟩:∃y:Hp,y={ x with K:=D,A:=x.A.set i t,I:=x.I+1 }:=⟨_,rfl⟩;have W:∀q,y.c q=if q=i then t else x.c q:=λq=>by rw[v];exact Hp.c_set x i t B q
 have z:y.A.length=x.A.length:=by rw[v];simp
 have R:y.A=x.A.set i t:=by rw[v]
 have H:y.E=3:=by rw[v];exact hp
 have N:y.I=x.I+1:=by rw[v]
 have X:y.sub=x.sub:=by rw[v]
 have T:y.B=x.B:=by rw[v]
 have I:y.D=[]:=by rw[v];exact V
 have yu:y.K=D:=by rw[v]
 have y1:y.M=x.M/\y.born=x.born/\y.per=x.per/\y.V=x.V/\y.Q=x.Q/\y.S=x.S:=by rw[v];exact⟨rfl,rfl,rfl,rfl,rfl,rfl⟩
 rw[<-v];have l:∀q,q≠i->y.c q=x.c q:=λq e=>by rw[W,if_neg e]
 have A:y.c i=t:=by rw[W,if_pos rfl]
 have ci:t.J=0:=by rcases E with⟨e,_⟩ | ⟨e,_⟩ <;> rw[e] <;> rfl
 have L:uE x i↔whB (x.c i)=true:=by grind [uE,whB,Hp.c,b4e,Cl0,qX]
 have dm:∀q,uE y q->uE x q/\q≠i:=λq d=>by grind [uE,Cl0,whB,Hp.c,qX]
 have eN:∀u m,hU x u m->hU y u m:=λu m hl=>by grind [hU,uX.A,Snd.nomoved,Cl0,whB,Hp.c,qX]
 have r:=h.r1;refine⟨⟨by rw[y1.1];exact r.M,by rw[T];exact r.B,by rw[z,y1.1];exact r.A,by rw[I];simp,by rw[y1.2.1];exact r.born,by rw[y1.2.2.2.2.1];exact r.Q,by rw[y1.2.2.2.2.2];exact r.S,by rw[y1.2.2.1];exact r.per,by rw[y1.2.2.2.1];exact r.V,by rw[H];omega,by rw[N,z];omega,by rw[X];exact r.sub⟩,⟨λq f=>?_,λq f o k s G=>?_⟩,?_,⟨λq f=>?_,λq f=>⟨λe=>?_,λk s=>⟨λd=>?_,λd=>?_⟩⟩⟩,⟨λ_=>by rw[I];rfl,λq f=>?_,λg C=>by rw[I] at C;cases C⟩,?_,λe=>?_,λq f e=>by have:=e.1;omega⟩
 ·rw[z] at f;unfold hJ;by_cases e:q=i
  ·subst e;rw[A];rcases E with⟨n,_⟩ | ⟨n,_⟩
   ·rw[n];exact .inl ⟨rfl,⟨rfl,rfl,rfl,rfl,rfl,rfl⟩,rfl⟩
   ·rw[n];rcases h.r2.1 q f with⟨a,b,c⟩ | ⟨a,_⟩ | ⟨a,b⟩
    ·exact .inl ⟨a,⟨b.1,b.2.1,b.2.2.1,b.2.2.2.1,rfl,b.2.2.2.2.2⟩,c⟩
    ·exact(h.nomoved (by omega) q f a).elim
    ·exact .inr (.inr ⟨a,b.1,b.2.1,b.2.2.1,by rw[y1.2.1];exact b.2.2.2.1,⟨show(0:Int)<=0 by omega,show(0:Int)<=2 by omega⟩,b.2.2.2.2.2⟩)
  ·rw[l q e];rcases h.r2.1 q f with a | ⟨a,_⟩ | ⟨a,b⟩
   ·exact .inl a
   ·exact(h.nomoved (by omega) q f a).elim
   ·exact .inr (.inr ⟨a,b.1,b.2.1,b.2.2.1,by rw[y1.2.1];exact b.2.2.2.1,b.2.2.2.2⟩)
 ·rw[z] at f;rcases E with⟨n,_⟩ | ⟨n,_⟩
  ·have Z:q≠i:=λe=>by rw[e,A,n] at o;exact o rfl
   have n2:k≠i:=λe=>by grind [Cl0,whB,Hp.c,qX]
   rw[l q Z,l k n2] at G;rw[l q Z] at o;exact h.r2.2 q f o k s G
  ·have j:∀p,(y.c p).st=(x.c p).st/\(y.c p).born=(x.c p).born/\(y.c p).to=(x.c p).to:=λp=>by
    by_cases e:p=i
    ·rw[e,A,n];exact⟨rfl,rfl,rfl⟩
    ·rw[l p e];exact⟨rfl,rfl,rfl⟩
   rw[(j q).1,(j q).2.1,(j q).2.2,(j k).1,(j k).2.1,(j k).2.2] at G;rw[(j q).1] at o;exact h.r2.2 q f o k s G
 ·have Q:=a2e x.A i t B;rw[Hp.c_eq x i B] at Q;unfold R3;rw[yu,R,y1.1];have J:=h.r3;rcases E with⟨n,w,e3⟩ | ⟨n,w,e3⟩
  ·have h1:hV (x.c i)=1+(x.c i).F.length:=by unfold hV;rw[if_pos ((b4e _).1 w).1]
   have P:hV t=0:=by rw[n];rfl
   rw[h1,P] at Q;have:=J.1;have:=J.2;exact⟨by omega,by omega⟩
  ·have P:hV t=hV (x.c i):=by rw[n];rfl
   rw[P] at Q;have:=J.1;have:=J.2;exact⟨by omega,by omega⟩
 ·have M:q<x.B.length:=by rw[<-T];exact f
  have n:y.B[q]=x.B[q]:=by simp [T]
  rw[n];exact eN _ _ (h.r4.1 q M)
 ·rw[z] at f;obtain⟨K,S⟩:=dm q e.1;have Y:=e.2;rw[l q S] at Y;exact(h.r4.2 q f).1 ⟨K,Y⟩
 ·rw[z] at f;obtain⟨K,S⟩:=dm q d;rw[l q S] at s ⊢;rw[z];exact((h.r4.2 q f).2 k s).1 K
 ·rw[z] at f
  have F:∀u,hU x u (¬cH x q k)->hU y u (¬cH y q k):=λu hl=>by grind [hU,cH,Cl0,whB,Hp.c,qX]
  by_cases e:q=i
  ·subst e;rw[A] at s ⊢;rcases E with⟨n,_⟩ | ⟨n,w,_⟩
   ·rw[n] at s;simp [Cl0] at s
   ·rw[n] at s ⊢;have:=((h.r4.2 q f).2 k s).2 (λd=>w (L.1 d));exact⟨F _ this.1,F _ this.2⟩
  ·rw[l q e] at s ⊢;have nd:¬uE x q:=λO=>d ⟨H,by rw[N];have:=O.2.1;omega,by rw[l q e];exact O.2.2.1,by rw[l q e];exact O.2.2.2⟩
   have:=((h.r4.2 q f).2 k s).2 nd;exact⟨F _ this.1,F _ this.2⟩
 ·rw[z] at f;unfold eK;rw[I,H,N];by_cases e:q=i
  ·grind [cnt,Cl0,whB,Hp.c,qX]
  ·rw[l q e];have c:=h.r5.2.1 q f;refine⟨λU=>?_,λ_=>by simp [cnt],λU=>.inr ⟨rfl,?_⟩⟩
   ·have:=c.1 U;rw[V] at this;simp [cnt] at this
   ·rcases c.2.2 U with m | m
    ·rcases m with m | m <;> omega
    ·have:=m.2;omega
 ·unfold R6;rw[H,X];exact⟨λe=>by omega,λe=>by omega,λe=>by omega,λ_=>h.r6.2.2.2 (by omega)⟩
 ·exfalso;rcases e with e | e <;> omega
theorem Snd.u3(h:Snd x)(d:x.E=3):Snd (cY x):=by
 unfold cY
 split
 ·rename_i a;exact h.u3end d a
 ·rename_i b;have f:=h.r1.I;have e:x.I=((x.I.toNat:Nat):Int):=by omega
  split
  ·grind [Snd.u3cell,Snd.I,Cl0,cY]
  ·grind [Snd.u3cell,Snd.I,qX,Hp.c,cY]
def mvC(t:Nat):Cl:=⟨2,0,0,0,0,0,t,[]⟩
def mvW(t f:Nat)(r:Wd):Wd:=if r.k=2/\r.a=(f:Int) then ⟨2,0,t⟩ else r
def dL(x:Hp)(t f:Nat):Hp:={ x with A:=(x.A.set t (x.c f)).set f (mvC t),B:=x.B.map (mvW t f) }
def uV(x:Hp):Nat:=x.A.findIdx (λc=>c.st == 0)
def a1c(x:Hp):Nat->Int
 | 0=>-1
 | k+1=>if (x.c k).st=1 then (k:Int) else a1c x k
def unit4(x:Hp):Hp:=if a1c x x.A.length<=(uV x:Int) then cZ x 5 0 else dL x (uV x) (a1c x x.A.length).toNat
theorem a1s(x:Hp):∀k,(a1c x k = -1/\∀i,i<k->(x.c i).st≠1)\/∃f:Nat,a1c x k=(f:Int)/\f<k/\(x.c f).st=1/\∀i,f<i->i<k->(x.c i).st≠1
 | 0=>.inl ⟨rfl,λi hi=>by omega⟩
 | k+1=>by
  unfold a1c;by_cases e:(x.c k).st=1
  ·grind [a1c,Hp.c]
  ·rw[if_neg e];rcases a1s x k with⟨h1,h2⟩ | ⟨f,h1,h2,h3,h4⟩
   ·grind [a1c,Hp.c]
   ·grind [a1c,Hp.c]
theorem a1b(x:Hp):uV x<=x.A.length/\(∀i,i<uV x->(x.c i).st≠0)/\(uV x<x.A.length->(x.c (uV x)).st=0):=by grind [uV,uX.A,Hp.c,Hp.c_eq]
theorem Snd.mv(h:Snd x)(R:x.E=4)(t f:Nat)(ae:t<f)(M:f<x.A.length)(h0:(x.c t).st=0)(N:∀k,k<t->(x.c k).st≠0)(h1:(x.c f).st=1):Snd (dL x t f):=by
 have hg:=h.nogray (λe=>by rcases e with e | e <;> omega);have ht:t<x.A.length:=by omega
 obtain⟨y,z⟩:∃y:Hp,y=dL x t f:=⟨_,rfl⟩;have A:y.A.length=x.A.length:=by rw[z];simp [dL]
 have S:∀q,y.c q=if q=f then mvC t else if q=t then x.c f else x.c q:=λq=>by grind [Hp.c,mvC,Hp.c_set,uX.A,qC.set,dL]
 have X:y.A=(x.A.set t (x.c f)).set f (mvC t):=by rw[z];rfl
 have J:y.E=4:=by rw[z];exact R
 have yh:y.I=x.I:=by rw[z];rfl
 have ys:y.sub=x.sub:=by rw[z];rfl
 have Z:y.B=x.B.map (mvW t f):=by rw[z];rfl
 have P:y.D=[]:=by rw[z];exact hg
 have y1:y.M=x.M/\y.K=x.K/\y.born=x.born/\y.per=x.per/\y.V=x.V/\y.Q=x.Q/\y.S=x.S:=by rw[z];exact⟨rfl,rfl,rfl,rfl,rfl,rfl,rfl⟩
 rw[<-z];have B:y.c f=mvC t:=by rw[S,if_pos rfl]
 have v:y.c t=x.c f:=by rw[S,if_neg (by omega),if_pos rfl]
 have s:∀q,q≠f->q≠t->y.c q=x.c q:=λq a b=>by rw[S,if_neg a,if_neg b]
 have Q:∀i,¬uE y i:=λi d=>by have:=d.1;omega
 have H:∀i,¬uE x i:=λi d=>by have:=d.1;omega
 have C:∀i k,¬cH y i k:=λi k e=>e.1 J
 have tgt:∀i,i<x.A.length->(x.c i).st=2->(x.c i).to.toNat≠f/\(x.c i).to.toNat≠t/\(x.c i).to≠(t:Int):=λi hi e=>by
  rcases h.r2.1 i hi with⟨a,_⟩ | ⟨_,b⟩ | ⟨a,_⟩
  ·omega
  ·obtain⟨_,_,b3,b4,b5,b6⟩:=b;refine⟨λo=>?_,λo=>?_,λo=>?_⟩
   ·exact b6 R t (by omega) h0
   ·rw[o] at b5;omega
   ·grind [Hp.c,dL]
  ·omega
 have eN:∀u (m T:Prop),T->hU x u m->hU y u T:=λu m T L F=>by
  refine⟨by rw[A];exact F.1,λj=>?_⟩;by_cases e:u.a.toNat=f
  ·exact .inl ⟨by rw[e,B];rfl,L⟩
  ·have o:u.a.toNat≠t:=λo=>by
    rcases F.2 j with⟨a,_⟩ | ⟨a,_⟩ <;> rw[o] at a <;> omega
   rw[s _ e o];rcases F.2 j with⟨a,_⟩ | ⟨a,_⟩
   ·exact .inl ⟨a,L⟩
   ·exact .inr ⟨a,Q _⟩
 have r:=h.r1;refine⟨⟨by rw[y1.1];exact r.M,by rw[Z,List.length_map];exact r.B,by rw[A,y1.1];exact r.A,by rw[P];simp,by rw[y1.2.2.1];exact r.born,by rw[y1.2.2.2.2.2.1];exact r.Q,by rw[y1.2.2.2.2.2.2];exact r.S,by rw[y1.2.2.2.1];exact r.per,by rw[y1.2.2.2.2.1];exact r.V,by rw[J];omega,by rw[yh,A];exact r.I,by rw[ys];exact r.sub⟩,⟨λq n=>?_,λq n aa k j O=>?_⟩,?_,⟨λq n=>?_,λq n=>⟨λe=>Q q e.1,λk j=>⟨λd=>(Q q d).elim,λ_=>?_⟩⟩⟩,⟨λ_=>by rw[P];rfl,λq n=>?_,λg I=>by rw[P] at I;cases I⟩,?_,λe=>?_,λq n e=>by have:=e.1;omega⟩
 ·rw[A] at n;unfold hJ;by_cases e:q=f
  ·subst e;rw[B];refine .inr (.inl ⟨rfl,⟨rfl,rfl,rfl,rfl,rfl,rfl⟩,by rw[J];omega,show(0:Int)<=(t:Int) by omega,show(t:Int)<(q:Int) by omega,?_,λ_ k j=>?_⟩)
   ·show(y.c (t:Int).toNat).st=1;have:((t:Int)).toNat=t:=by omega
    rw[this,v];exact h1
   ·have ab:(k:Int)<(t:Int):=j;rw[s k (by omega) (by omega)];exact N k (by omega)
  ·by_cases o:q=t
   ·subst o;rw[v];rcases h.r2.1 f M with⟨a,_⟩ | ⟨a,_⟩ | ⟨a,b⟩
    ·omega
    ·omega
    ·exact .inr (.inr ⟨a,b.1,b.2.1,b.2.2.1,by rw[y1.2.2.1];exact b.2.2.2.1,b.2.2.2.2⟩)
   ·rw[s q e o];rcases h.r2.1 q n with a | ⟨a,b⟩ | ⟨a,b⟩
    ·exact .inl a
    ·obtain⟨t1,t2,_⟩:=tgt q n a;refine .inr (.inl ⟨a,b.1,by rw[J];omega,b.2.2.1,b.2.2.2.1,by rw[s _ t1 t2];exact b.2.2.2.2.1,λ_ k j=>?_⟩);by_cases ek:k=f
     ·rw[ek,B];simp [mvC]
     ·by_cases K:k=t
      ·rw[K,v];omega
      ·rw[s k ek K];exact b.2.2.2.2.2 R k j
    ·exact .inr (.inr ⟨a,b.1,b.2.1,b.2.2.1,by rw[y1.2.2.1];exact b.2.2.2.1,b.2.2.2.2⟩)
 ·rw[A] at n
  have ac:∀p D,p<x.A.length->D<x.A.length->p≠D->(x.c p).st≠0->¬((x.c D).st=(x.c p).st/\(x.c D).born=(x.c p).born/\(x.c D).to=(x.c p).to):=λp D w Y E hs e=>by
   rcases Nat.lt_or_gt_of_ne E with l | l
   ·exact h.r2.2 D Y (by rw[e.1];exact hs) p l ⟨e.1.symm,e.2.1.symm,e.2.2.symm⟩
   ·exact h.r2.2 p w hs D l e
  have ad:k<x.A.length:=by omega
  have G:∀p,p<x.A.length->p≠f->p≠t->¬((x.c p).st=2/\(x.c p).to=(t:Int)):=λp w _ _ e=>(tgt p w e.1).2.2 e.2
  by_cases q1:q=f
  ·grind [mvC,Hp.c,dL]
  ·by_cases q2:q=t
   ·grind [Hp.c,dL]
   ·rw[s q q1 q2] at O aa;by_cases k1:k=f
    ·subst k1;rw[B] at O;exact G q n q1 q2 ⟨O.1.symm,O.2.2.symm⟩
    ·grind [Hp.c,dL]
 ·have U:=a2e x.A t (x.c f) ht;have W:=a2e (x.A.set t (x.c f)) f (mvC t) (by simpa using M);rw[Hp.c_eq x t ht] at U
  have e1:(x.A.set t (x.c f))[f]'(by simpa using M)=x.c f:=by
   rw[List.getElem_set_ne (by omega),Hp.c_eq x f M]
  rw[e1] at W;have z1:hV (x.c t)=0:=by unfold hV;rw[if_neg (by omega)]
  have z2:hV (mvC t)=0:=by unfold hV;rw[if_neg (by simp [mvC])]
  unfold R3;rw[y1.2.1,y1.1,X];have:=h.r3.1;have:=h.r3.2;exact⟨by omega,by omega⟩
 ·have V:q<x.B.length:=by rw[Z,List.length_map] at n;exact n
  have o:y.B[q]=mvW t f x.B[q]:=by simp [Z]
  rw[o];have F:=h.r4.1 q V;unfold mvW
  split
  ·refine⟨.inr (.inr ⟨rfl,rfl,show(0:Int)<=(t:Int) by omega,show(t:Int)<_ by rw[A];omega⟩),λ_=>.inr ⟨?_,Q _⟩⟩;show(y.c (t:Int).toNat).st=1;have:((t:Int)).toNat=t:=by omega
   rw[this,v];exact h1
  ·rename_i E;refine⟨by rw[A];exact F.1,λj=>?_⟩;have ha:0<=x.B[q].a:=by rcases F.1 with g | g | g <;> omega
   have e3:x.B[q].a.toNat≠f:=λe=>E ⟨j,by omega⟩
   rcases F.2 j with⟨_,b⟩ | ⟨a,_⟩
   ·exact b.elim
   ·grind [Hp.c,dL]
 ·rw[A] at n;by_cases e:q=f
  ·grind [mvC,Hp.c,dL]
  ·by_cases o:q=t
   ·subst o;rw[v] at j ⊢;have:=((h.r4.2 f M).2 k j).2 (H f);exact⟨eN _ _ _ (C q k) this.1,eN _ _ _ (C q k) this.2⟩
   ·rw[s q e o] at j ⊢;have:=((h.r4.2 q n).2 k j).2 (H q);exact⟨eN _ _ _ (C q k) this.1,eN _ _ _ (C q k) this.2⟩
 ·rw[A] at n
  have cx:∀p,p<x.A.length->(x.c p).J≠1/\(x.c p).J≠2:=λp w=>by
   have c:=h.r5.2.1 p w;refine⟨λe=>?_,λe=>?_⟩
   ·have:=c.1 e;rw[hg] at this;simp [cnt] at this
   ·rcases c.2.2 e with m | m
    ·rcases m with m | m <;> omega
    ·have:=m.1;omega
  have cy:(y.c q).J≠1/\(y.c q).J≠2:=by grind [Hp.c,mvC,dL]
  exact⟨λe=>(cy.1 e).elim,λ_=>by rw[P];simp [cnt],λe=>(cy.2 e).elim⟩
 ·unfold R6;rw[J,yh,ys];exact⟨λ_=>h.r6.1 (.inr R),λe=>by omega,λe=>by omega,λe=>by omega⟩
 ·exfalso;rcases e with e | e <;> omega
theorem Snd.cols(h:Snd x)(d:x.E≠1/\x.E≠2/\x.E≠3)(i:Nat)(b:i<x.A.length):(x.c i).J≠1/\(x.c i).J≠2:=by
 have a:=h.nogray (λe=>by rcases e with e | e <;> omega);have c:=h.r5.2.1 i b;refine⟨λe=>?_,λe=>?_⟩
 ·have:=c.1 e;rw[a] at this;simp [cnt] at this
 ·rcases c.2.2 e with m | m
  ·rcases m with m | m <;> omega
  ·have:=m.1;omega
theorem Snd.turned(h:Snd x)(z:x.E≠1/\x.E≠2/\x.E≠3)(p j n q:Int)(f:0<=p/\p<=6/\p≠2/\p≠3/\p≠4)(I:0<=j/\j<=x.A.length)(F:0<=n/\n<=200)(E:0<=q/\q<=1000000000)(y:p<4->∀i,i<x.A.length->(x.c i).st≠2)
  (s:∀i k,i<x.A.length->k<(x.c i).F.length->¬cH x i k->¬cH { x with E:=p,I:=j,sub:=n,Q:=q } i k) (G:R6 { x with E:=p,I:=j,sub:=n,Q:=q }) (J:p=1->j=0) (H:R8 { x with E:=p,I:=j,sub:=n,Q:=q }):Snd { x with E:=p,I:=j,sub:=n,Q:=q }:=by
 have B:=h.nogray (λe=>by rcases e with e | e <;> omega);have r:=h.r1
 have eN:∀(w:Wd) (m u:Prop),(m->u)->hU x w m->hU { x with E:=p,I:=j,sub:=n,Q:=q } w u:=λw m u v A=>by
  refine⟨A.1,λo=>?_⟩;rcases A.2 o with⟨a,b⟩ | ⟨a,_⟩
  ·exact .inl ⟨a,v b⟩
  ·exact .inr ⟨a,λd=>f.2.2.2.1 d.1⟩
 refine⟨⟨r.M,r.B,r.A,r.D,r.born,E,r.S,r.per,r.V,⟨f.1,f.2.1⟩,I,F⟩,⟨λi g=>?_,h.r2.2⟩,h.r3,⟨λi g=>eN _ _ _ id (h.r4.1 i g),λi g=>⟨λd=>f.2.2.2.1 d.1.1,λk o=>⟨λd=>(f.2.2.2.1 d.1).elim,λ_=>?_⟩⟩⟩,⟨λ_=>by show x.D.length=0;rw[B];rfl,λi g=>?_,h.r5.2.2⟩,G,λC i g=>?_,H⟩
 ·rcases h.r2.1 i g with a | ⟨a,b⟩ | a
  ·exact .inl a
  ·refine .inr (.inl ⟨a,b.1,?_,b.2.2.1,b.2.2.2.1,b.2.2.2.2.1,λe=>(f.2.2.2.2 e).elim⟩);show 4<=p;by_cases l:p<4
   ·exact(y l i g a).elim
   ·omega
  ·exact .inr (.inr a)
 ·have:=((h.r4.2 i g).2 k o).2 (λd=>z.2.2 d.1);exact⟨eN _ _ _ (s i k g o) this.1,eN _ _ _ (s i k g o) this.2⟩
 ·have c:=h.cols z i g;exact⟨λe=>(c.1 e).elim,λe=>(h.r5.2.1 i g).2.1 e,λe=>(c.2 e).elim⟩
 ·have D:p=1:=by
   have e:p=1\/p=2:=C;omega
  have c:=h.cols z i g;refine⟨λe=>?_,λk o=>?_⟩
  ·grind [Cl.p,Hp.c,cH,R6,R8]
  ·have t:k<(if (x.c i).J=2 then (x.c i).F.length else if p=2/\x.D.length≠0/\x.D.getD 0 0=(i:Int) then n.toNat else 0):=o;rw[if_neg c.2,if_neg (λe=>f.2.2.1 e.1)] at t;omega
theorem Snd.begin(h:Snd x)(c:x.E=0):Snd (cZ x 1 0):=by
 refine h.turned ⟨by omega,by omega,by omega⟩ 1 0 0 x.Q ⟨by omega,by omega,by omega,by omega,by omega⟩ ⟨by omega,by omega⟩ ⟨by omega,by omega⟩ h.r1.Q (λ_ i a=>h.nomoved (by omega) i a) (λi k _ _ e=>(e ⟨by omega,λb=>by omega⟩).elim) ⟨λe=>?_,λe=>?_,λe=>?_,λ_=>rfl⟩ (λ_=>rfl) (λi a e=>?_)
 ·grind [cZ]
 ·grind [cZ]
 ·grind [cZ]
 ·grind [cZ]
theorem Snd.u4(h:Snd x)(g:x.E=4):Snd (unit4 x):=by
 unfold unit4;obtain⟨f,b,d⟩:=a1b x
 split
 ·refine h.turned ⟨by omega,by omega,by omega⟩ 5 0 0 x.Q ⟨by omega,by omega,by omega,by omega,by omega⟩ ⟨by omega,by omega⟩ ⟨by omega,by omega⟩ h.r1.Q (λe=>by omega) (λi k _ _ _ e=>?_) ⟨λe=>?_,λe=>?_,λ_=>⟨λ_=>rfl,λ_=>?_⟩,λe=>?_⟩ (λe=>by omega) (λi a e=>?_)
  ·have c:(i:Int)<0\/((i:Int)=0/\(k:Int)<0):=e.2 rfl;omega
  ·grind [unit4]
  ·grind [unit4]
  ·show(0:Int)<=_;omega
  ·grind [unit4]
  ·grind [unit4]
 ·grind [a1s,uX.A,a1c,Snd.mv,uV,unit4]
def qH(x:Hp)(c:Cl)(k:Nat):Cl:={ c with F:=c.F.set k ⟨eZ x (c.p k).key,eZ x (c.p k).val⟩ }
def cV(x:Hp):Hp:=if x.I=x.A.length then cZ x 6 x.A.length else
 if x.sub<(x.c x.I.toNat).F.length then { x with A:=x.A.set x.I.toNat (qH x (x.c x.I.toNat) x.sub.toNat),sub:=x.sub+1 }
 else { x with I:=x.I+1,sub:=0 }
theorem Snd.mend(h:Snd x)(hp:x.E=5)(i k:Nat)(hi:x.I=(i:Int))(o:i<x.A.length)(N:x.sub=(k:Int))(ac:k<(x.c i).F.length):Snd { x with A:=x.A.set i (qH x (x.c i) k),sub:=x.sub+1 }:=by
 have S:=h.nogray (λe=>by rcases e with e | e <;> omega)
 have aa:(x.c i).st=1:=by
  rcases h.r2.1 i o with⟨_,b,_⟩ | ⟨_,b⟩ | ⟨a,_⟩
  ·have:=b.2.2.2.2.2;omega
  ·have:=b.1.2.2.2.2.2;omega
  ·exact a
 obtain⟨y,s⟩:∃y:Hp,y={ x with A:=x.A.set i (qH x (x.c i) k),sub:=x.sub+1 }:=⟨_,rfl⟩;have T:∀q,y.c q=if q=i then qH x (x.c i) k else x.c q:=λq=>by rw[s];exact Hp.c_set x i _ o q
 have t:y.A.length=x.A.length:=by rw[s];simp
 have L:y.A=x.A.set i (qH x (x.c i) k):=by rw[s]
 have P:y.E=5:=by rw[s];exact hp
 have yh:y.I=x.I:=by rw[s]
 have V:y.sub=x.sub+1:=by rw[s]
 have M:y.B=x.B:=by rw[s]
 have K:y.D=[]:=by rw[s];exact S
 have y1:y.M=x.M/\y.K=x.K/\y.born=x.born/\y.per=x.per/\y.V=x.V/\y.Q=x.Q/\y.S=x.S:=by rw[s];exact⟨rfl,rfl,rfl,rfl,rfl,rfl,rfl⟩
 rw[<-s];have X:y.c i=qH x (x.c i) k:=by rw[T,if_pos rfl]
 have l:∀q,(y.c q).st=(x.c q).st/\(y.c q).kind=(x.c q).kind/\(y.c q).T=(x.c q).T/\(y.c q).U=(x.c q).U/\(y.c q).born=(x.c q).born/\(y.c q).J=(x.c q).J/\(y.c q).to=(x.c q).to/\(y.c q).F.length=(x.c q).F.length:=λq=>by grind [Hp.c,qH]
 have B:∀q,¬uE y q:=λq d=>by have:=d.1;omega
 have F:∀q,¬uE x q:=λq d=>by have:=d.1;omega
 have eN:∀(u:Wd) (m v:Prop),(m->v)->hU x u m->hU y u v:=λu m v ab A=>by grind [hU,Hp.c,qH]
 have W:∀(u:Wd) (m v:Prop),hU x u m->hU y (eZ x u) v:=λu m v A=>by
  unfold eZ
  split
  ·rename_i e;have E:u.a.toNat<x.A.length:=by rcases A.1 with f | f | f <;> omega
   rcases h.r2.1 _ E with⟨a,_⟩ | ⟨_,b⟩ | ⟨a,_⟩
   ·have:=e.2;omega
   ·obtain⟨_,_,b3,b4,Z,_⟩:=b;refine⟨.inr (.inr ⟨rfl,rfl,b3,show(x.c u.a.toNat).to<_ by rw[t];omega⟩),λ_=>.inr ⟨?_,B _⟩⟩;rw[(l _).1];exact Z
   ·have:=e.2;omega
  ·rename_i e;refine⟨by rw[t];exact A.1,λN=>?_⟩;rw[(l _).1];rcases A.2 N with⟨a,_⟩ | ⟨a,_⟩
   ·exact(e ⟨N,a⟩).elim
   ·exact .inr ⟨a,B _⟩
 have I:=h.ok.p200 i o;have r:=h.r1;refine⟨⟨by rw[y1.1];exact r.M,by rw[M];exact r.B,by rw[t,y1.1];exact r.A,by rw[K];simp,by rw[y1.2.2.1];exact r.born,by rw[y1.2.2.2.2.2.1];exact r.Q,by rw[y1.2.2.2.2.2.2];exact r.S,by rw[y1.2.2.2.1];exact r.per,by rw[y1.2.2.2.2.1];exact r.V,by rw[P];omega,by rw[yh,t];exact r.I,by rw[V];omega⟩,⟨λq n=>?_,λq n Q j C O=>?_⟩,?_,⟨λq n=>?_,λq n=>⟨λe=>B q e.1,λj C=>⟨λd=>(B q d).elim,λ_=>?_⟩⟩⟩,⟨λ_=>by rw[K];rfl,λq n=>?_,λg w=>by rw[K] at w;cases w⟩,?_,λe=>?_,λq n e=>by have:=e.1;omega⟩
 ·rw[t] at n;obtain⟨z,J,e3,Y,G,U,D,e8⟩:=l q;unfold hJ a2t eH yV;rw[z,J,e3,Y,G,U,D,e8,y1.2.2.1,P,(l _).1];rcases h.r2.1 q n with a | ⟨a,b⟩ | a
  ·exact .inl a
  ·exact .inr (.inl ⟨a,b.1,by omega,b.2.2.1,b.2.2.2.1,b.2.2.2.2.1,λe=>by omega⟩)
  ·exact .inr (.inr a)
 ·rw[t] at n;obtain⟨z,_,_,_,G,_,D,_⟩:=l q;obtain⟨f1,_,_,_,R,_,f7,_⟩:=l j;rw[z,G,D,f1,R,f7] at O;rw[z] at Q;exact h.r2.2 q n Q j C O
 ·unfold R3;rw[y1.2.1,y1.1,L];have:units (x.A.set i (qH x (x.c i) k))=units x.A:=a3x _ _ _ o (by rw[Hp.c_eq x i o];unfold hV qH;simp);rw[this];exact h.r3
 ·have H:q<x.B.length:=by rw[<-M];exact n
  have J:y.B[q]=x.B[q]:=by simp [M]
  rw[J];exact eN _ _ _ id (h.r4.1 q H)
 ·rw[t] at n;rw[(l q).2.2.2.2.2.2.2] at C;have h4:=((h.r4.2 q n).2 j C).2 (F q);by_cases e:q=i
  ·grind [Hp.c,Cl.p,eZ,qH,cH]
  ·grind [cH,Hp.c,qH]
 ·grind [Hp.c,Snd.cols,eK,cnt,qH]
 ·grind [R6,Snd.I,Hp.c,qH]
 ·exfalso;rcases e with e | e <;> omega
theorem Snd.u5(h:Snd x)(d:x.E=5):Snd (cV x):=by
 have s:=h.r1.I;have u:=h.r1.sub;have r:=h.r6.2.2.1 d;unfold cV
 split
 ·rename_i w;refine h.turned ⟨by omega,by omega,by omega⟩ 6 x.A.length 0 x.Q ⟨by omega,by omega,by omega,by omega,by omega⟩ ⟨by omega,by omega⟩ ⟨by omega,by omega⟩ h.r1.Q (λe=>by omega) (λi k b _ e=>(e ⟨by omega,λ_=>.inl (by omega)⟩).elim) ⟨λe=>?_,λe=>?_,λe=>?_,λ_=>rfl⟩ (λe=>by omega) (λi b e=>?_)
  ·grind [cV]
  ·grind [cV]
  ·grind [cV]
  ·grind [uX.A,cV]
 ·rename_i l
  split
  ·grind [Snd.mend,Snd.I,cV]
  ·rename_i a;obtain⟨i,b⟩:∃i:Nat,x.I=(i:Int):=⟨x.I.toNat,by omega⟩;have p:i<x.A.length:=by omega
   have o:x.I.toNat=i:=by omega
   rw[o] at r a
   have j:∀k,k<(x.c i).F.length->(k:Int)<x.sub:=λk f=>by grind [Hp.c,cV]
   have n:({ x with I:=x.I+1,sub:=0 }:Hp)={ x with E:=x.E,I:=x.I+1,sub:=0,Q:=x.Q }:=rfl;rw[n,d];refine h.turned ⟨by omega,by omega,by omega⟩ 5 (x.I+1) 0 x.Q ⟨by omega,by omega,by omega,by omega,by omega⟩ ⟨by omega,by omega⟩ ⟨by omega,by omega⟩ h.r1.Q (λe=>by omega) (λq k g f e m=>e ⟨by omega,λ_=>?_⟩) ⟨λe=>?_,λe=>?_,λ_=>⟨λ_=>rfl,λ_=>?_⟩,λe=>?_⟩ (λe=>by omega) (λq g e=>?_)
   ·have t:(q:Int)<x.I+1\/((q:Int)=x.I+1/\(k:Int)<0):=m.2 rfl;by_cases v:q=i
    ·grind [cV]
    ·left;omega
   ·grind [cV]
   ·grind [cV]
   ·show(0:Int)<=_;omega
   ·grind [cV]
   ·grind [cV]
def cJ(x:Hp)(i:Nat):Hp:={ x with A:=if (x.c i).st=2 then x.A.set i Cl0 else x.A,I:=(i:Int) }
def qE(x:Hp)(i:Nat):Hp:=if i+1=x.A.length/\(x.c i).st=0 then { x with A:=x.A.take i } else x
def hE(x:Hp):Hp:=if x.I=0 then { x with E:=0,I:=0,sub:=0,Q:=if x.Q<1000000000 then x.Q+1 else x.Q } else qE (cJ x (x.I-1).toNat) (x.I-1).toNat
theorem Snd.noword(h:Snd x)(n:x.E=6):(∀i (b:i<x.B.length),dQ x x.B[i])/\∀i k,i<x.A.length->k<(x.c i).F.length->dQ x ((x.c i).p k).key/\dQ x ((x.c i).p k).val:=by
 refine⟨λi b=>h.good_reg i b,λi k b l=>?_⟩;have r:=((h.r4.2 i b).2 k l).2 (λd=>by have:=d.1;omega);have a:cH x i k:=⟨by omega,λm=>by omega⟩
 have j:∀y,hU x y (¬cH x i k)->dQ x y:=λy g e=>by
  rcases g.2 e with⟨_,h2⟩ | ⟨h1,_⟩
  ·exact(h2 a).elim
  ·refine⟨?_,h1⟩;rcases g.1 with f | f | f <;> omega
 exact⟨j _ r.1,j _ r.2⟩
theorem Snd.shut(h:Snd x)(F:x.E=6)(i:Nat)(Y:x.I=(i:Int)+1):Snd (cJ x i):=by
 have z:=h.r1.I;have T:i<x.A.length:=by omega
 have O:=h.nogray (λe=>by rcases e with e | e <;> omega);obtain⟨U,N⟩:=h.noword F;obtain⟨y,k⟩:∃y:Hp,y=cJ x i:=⟨_,rfl⟩
 have w:∀q,y.c q=if q=i/\(x.c i).st=2 then Cl0 else x.c q:=λq=>by grind [Hp.c,Cl0,cJ,uX.A,qC.set,Snd.I,Hp.c_set]
 have l:y.A.length=x.A.length:=by rw[k];unfold cJ;split <;> simp
 have R:units y.A=units x.A:=by grind [units,uX.A,cJ,a3x,Hp.c_eq,hV,Cl0]
 have A:y.E=6:=by rw[k];exact F
 have J:y.I=(i:Int):=by rw[k];rfl
 have I:y.sub=x.sub:=by rw[k];rfl
 have E:y.B=x.B:=by rw[k];rfl
 have B:y.D=[]:=by rw[k];exact O
 have y1:y.M=x.M/\y.K=x.K/\y.born=x.born/\y.per=x.per/\y.V=x.V/\y.Q=x.Q/\y.S=x.S:=by rw[k];exact⟨rfl,rfl,rfl,rfl,rfl,rfl,rfl⟩
 rw[<-k]
 have t:∀q,(x.c q).st=1->y.c q=x.c q:=λq e=>by grind [Hp.c,cJ]
 have K:∀q,¬uE y q:=λq d=>by have:=d.1;omega
 have eN:∀u m H,dQ x u->hU x u m->hU y u H:=λu m H S V=>by grind [dQ,hU,cJ]
 have C:∀q,0<(y.c q).F.length->y.c q=x.c q:=λq f=>by grind [Hp.c,Cl0,cJ]
 have r:=h.r1;refine⟨⟨by rw[y1.1];exact r.M,by rw[E];exact r.B,by rw[l,y1.1];exact r.A,by rw[B];simp,by rw[y1.2.2.1];exact r.born,by rw[y1.2.2.2.2.2.1];exact r.Q,by rw[y1.2.2.2.2.2.2];exact r.S,by rw[y1.2.2.2.1];exact r.per,by rw[y1.2.2.2.2.1];exact r.V,by rw[A];omega,by rw[J,l];omega,by rw[I];exact r.sub⟩,⟨λq f=>?_,λq f o j p z=>?_⟩,⟨by rw[y1.2.1,R];exact h.r3.1,by rw[y1.2.1,y1.1];exact h.r3.2⟩,⟨λq f=>?_,λq f=>⟨λe=>K q e.1,λj p=>⟨λd=>(K q d).elim,λ_=>?_⟩⟩⟩,⟨λ_=>by rw[B];rfl,λq f=>?_,λg s=>by rw[B] at s;cases s⟩,?_,λe=>?_,λq f e=>?_⟩
 ·rw[l] at f;unfold hJ;rw[w]
  split
  ·exact .inl ⟨rfl,⟨rfl,rfl,rfl,rfl,rfl,rfl⟩,rfl⟩
  ·rcases h.r2.1 q f with a | ⟨a,b⟩ | ⟨a,b⟩
   ·exact .inl a
   ·exact .inr (.inl ⟨a,b.1,by rw[A];omega,b.2.2.1,b.2.2.2.1,by rw[t _ b.2.2.2.2.1];exact b.2.2.2.2.1,λe=>by rw[A] at e;omega⟩)
   ·exact .inr (.inr ⟨a,b.1,b.2.1,b.2.2.1,by rw[y1.2.2.1];exact b.2.2.2.1,b.2.2.2.2⟩)
 ·rw[l] at f
  have L:y.c q=x.c q:=by
   rw[w] at o ⊢
   split
   ·rename_i e;rw[if_pos e] at o;exact(o rfl).elim
   ·rfl
  have P:y.c j=x.c j:=by
   have D:=z.1;rw[w j] at D ⊢
   split
   ·rename_i e;rw[if_pos e] at D;exact(o D.symm).elim
   ·rfl
  rw[L,P] at z;rw[L] at o;exact h.r2.2 q f o j p z
 ·have v:q<x.B.length:=by rw[<-E];exact f
  have n:y.B[q]=x.B[q]:=by simp [E]
  rw[n];exact eN _ _ _ (U q v) (h.r4.1 q v)
 ·rw[l] at f;have e:=C q (by omega);rw[e] at p ⊢;have G:=((h.r4.2 q f).2 j p).2 (λd=>by have:=d.1;omega);exact⟨eN _ _ _ (N q j f p).1 G.1,eN _ _ _ (N q j f p).2 G.2⟩
 ·rw[l] at f;have c:=h.cols ⟨by omega,by omega,by omega⟩ q f
  have M:(y.c q).J≠1/\(y.c q).J≠2:=by grind [Hp.c,Cl0,cJ]
  exact⟨λe=>(M.1 e).elim,λ_=>by rw[B];simp [cnt],λe=>(M.2 e).elim⟩
 ·unfold R6;rw[A,I];exact⟨λe=>by omega,λe=>by omega,λe=>by omega,λ_=>h.r6.2.2.2 (by omega)⟩
 ·exfalso;rcases e with e | e <;> omega
 ·rw[l] at f;have n:=e.2.2;have Q:=e.2.1;rw[J] at Q;rw[w] at n
  split at n
  ·simp [Cl0] at n
  ·rename_i X;by_cases W:q=i
   ·grind [cJ]
   ·exact h.r8 q f ⟨F,by omega,n⟩
theorem Snd.drop(h:Snd x)(N:x.E=6)(i:Nat)(W:x.I=(i:Int)):Snd (qE x i):=by
 unfold qE
 split
 rotate_left
 ·exact h
 rename_i P;obtain⟨A,U⟩:=P;have O:=h.nogray (λe=>by rcases e with e | e <;> omega);obtain⟨V,M⟩:=h.noword N;obtain⟨y,n⟩:∃y:Hp,y={ x with A:=x.A.take i }:=⟨_,rfl⟩;have p:y.A.length=i:=by rw[n];simp;omega
 have o:∀q,q<i->y.c q=x.c q:=λq l=>by grind [Hp.c,qE]
 have S:units y.A=units x.A:=by
  have e:=a5u x.A i (by omega);rw[show i+1=x.A.length from A,List.take_length,Hp.c_eq x i (by omega)] at e;have:hV (x.c i)=0:=by unfold hV;rw[if_neg (by omega)]
  rw[n];show units (x.A.take i)=_;omega
 have C:y.E=6:=by rw[n];exact N
 have R:y.I=(i:Int):=by rw[n];exact W
 have J:y.sub=x.sub:=by rw[n]
 have G:y.B=x.B:=by rw[n]
 have E:y.D=[]:=by rw[n];exact O
 have y1:y.M=x.M/\y.K=x.K/\y.born=x.born/\y.per=x.per/\y.V=x.V/\y.Q=x.Q/\y.S=x.S:=by rw[n];exact⟨rfl,rfl,rfl,rfl,rfl,rfl,rfl⟩
 rw[<-n];have F:∀q,¬uE y q:=λq d=>by have:=d.1;omega
 have eN:∀u m I,dQ x u->hU x u m->hU y u I:=λu m I z Q=>by
  have t:u.k=2->u.a.toNat<i:=λB=>by
   have:=z B;have:u.a.toNat≠i:=λe=>by rw[e] at this;omega
   omega
  refine⟨?_,λB=>.inr ⟨?_,F _⟩⟩
  ·rw[p];rcases Q.1 with f | f | f
   ·exact .inl f
   ·exact .inr (.inl f)
   ·refine .inr (.inr ⟨f.1,f.2.1,f.2.2.1,?_⟩);have:=t f.1;omega
  ·rw[o _ (t B)];exact(z B).2
 have r:=h.r1;refine⟨⟨by rw[y1.1];exact r.M,by rw[G];exact r.B,by rw[p,y1.1];have:=r.A;omega,by rw[E];simp,by rw[y1.2.2.1];exact r.born,by rw[y1.2.2.2.2.2.1];exact r.Q,by rw[y1.2.2.2.2.2.2];exact r.S,by rw[y1.2.2.2.1];exact r.per,by rw[y1.2.2.2.2.1];exact r.V,by rw[C];omega,by rw[R,p];omega,by rw[J];exact r.sub⟩,⟨λq l=>?_,λq l L j s K=>?_⟩,⟨by rw[y1.2.1,S];exact h.r3.1,by rw[y1.2.1,y1.1];exact h.r3.2⟩,⟨λq l=>?_,λq l=>⟨λe=>F q e.1,λj s=>⟨λd=>(F q d).elim,λ_=>?_⟩⟩⟩,⟨λ_=>by rw[E];rfl,λq l=>?_,λg v=>by rw[E] at v;cases v⟩,?_,λe=>?_,λq l e=>?_⟩
 ·rw[p] at l;unfold hJ;rw[o q l];rcases h.r2.1 q (by omega) with a | ⟨a,b⟩ | ⟨a,b⟩
  ·exact .inl a
  ·have D:(x.c q).to.toNat<i:=by have:=b.2.2.1;have:=b.2.2.2.1;omega
   exact .inr (.inl ⟨a,b.1,by rw[C];omega,b.2.2.1,b.2.2.2.1,by rw[o _ D];exact b.2.2.2.2.1,λe=>by rw[C] at e;omega⟩)
  ·exact .inr (.inr ⟨a,b.1,b.2.1,b.2.2.1,by rw[y1.2.2.1];exact b.2.2.2.1,b.2.2.2.2⟩)
 ·rw[p] at l;rw[o q l,o j (by omega)] at K;rw[o q l] at L;exact h.r2.2 q (by omega) L j s K
 ·have w:q<x.B.length:=by rw[<-G];exact l
  have T:y.B[q]=x.B[q]:=by simp [G]
  rw[T];exact eN _ _ _ (V q w) (h.r4.1 q w)
 ·rw[p] at l;rw[o q l] at s ⊢;have H:=((h.r4.2 q (by omega)).2 j s).2 (λd=>by have:=d.1;omega);exact⟨eN _ _ _ (M q j (by omega) s).1 H.1,eN _ _ _ (M q j (by omega) s).2 H.2⟩
 ·grind [Hp.c,Snd.cols,eK,cnt,qE]
 ·unfold R6;rw[C,J];exact⟨λe=>by omega,λe=>by omega,λe=>by omega,λ_=>h.r6.2.2.2 (by omega)⟩
 ·exfalso;rcases e with e | e <;> omega
 ·grind [qE]
theorem Snd.u6(h:Snd x)(a:x.E=6):Snd (hE x):=by
 have d:=h.r1.I;unfold hE
 split
 ·rename_i f;refine h.turned ⟨by omega,by omega,by omega⟩ 0 0 0 _ ⟨by omega,by omega,by omega,by omega,by omega⟩ ⟨by omega,by omega⟩ ⟨by omega,by omega⟩ (by have:=h.r1.Q;split <;> omega) (λ_ i b e=>h.r8 i b ⟨a,by omega,e⟩) (λi k _ _ e=>(e ⟨by omega,λg=>by omega⟩).elim) ⟨λ_=>⟨rfl,rfl⟩,λe=>?_,λe=>?_,λe=>?_⟩ (λe=>by omega) (λi b e=>?_)
  ·grind [hE]
  ·grind [hE]
  ·grind [hE]
  ·grind [hE]
 ·rename_i c;have e:x.I=(((x.I-1).toNat:Nat):Int)+1:=by omega
  have s:=h.shut a _ e;exact s.drop a _ rfl
def cE(x:Hp):Hp:=if x.E=1 then dC x else if x.E=2 then cX x else if x.E=3 then cY x else if x.E=4 then unit4 x else if x.E=5 then cV x else if x.E=6 then hE x else x
theorem Snd.unit(h:Snd x):Snd (cE x):=by grind [cE,Snd.u1,Snd.u2,Snd.u3,Snd.u4,Snd.u5,Snd.u6]
def sm(F:Cl->Nat)(cs:List Cl):Nat:=(cs.map F).sum
theorem b5n(F:Cl->Nat)(cs:List Cl)(i:Nat)(c:Cl)(b:i<cs.length):sm F (cs.set i c)+F cs[i]=sm F cs+F c:=by
 induction cs generalizing i with
 | nil=>simp at b
 | cons a cs ih=>
  cases i with
  | zero=>simp [sm];omega
  | succ i=>
   have:=ih i (by simpa using b);simp [sm] at this ⊢;omega
theorem c6a(F:Cl->Nat)(b:Nat):∀(cs:List Cl),(∀c,c∈cs->F c<=b)->sm F cs<=b*cs.length
 | [],_=>by simp [sm]
 | c::cs,h=>by
  have h1:=c6a F b cs (λd hd=>h d (by simp [hd]));have h2:=h c (by simp);simp only [sm,List.map_cons,List.sum_cons,List.length_cons,Nat.mul_add] at h1 ⊢;omega
theorem sm_drop(F:Cl->Nat)(cs:List Cl)(i:Nat)(a:i<cs.length):sm F (cs.drop i)=F cs[i]+sm F (cs.drop (i+1)):=by
 rw[List.drop_eq_getElem_cons a];simp only [sm,List.map_cons,List.sum_cons]
theorem c1n(F:Cl->Nat)(cs:List Cl)(i k:Nat)(c:Cl)(d:i<cs.length)(h:F c=F cs[i]):sm F ((cs.set i c).drop k)=sm F (cs.drop k):=by
 have e:(cs.set i c).map F=cs.map F:=by
  refine List.ext_getElem (by simp) (λj b a=>?_);simp only [List.getElem_map,List.getElem_set]
  split
  ·rename_i q;subst q;exact h
  ·rfl
 simp only [sm,List.map_drop,e]
def D2(c:Cl):Nat:=if c.st=1/\c.J≠2 then c.F.length+2+(if c.J=0 then 1 else 0) else 0
def D4(c:Cl):Nat:=if c.st=0 then 1 else 0
def D5(c:Cl):Nat:=c.F.length+1
def part(x:Hp):Nat:=
 if x.E=2 then sm D2 x.A-x.sub.toNat else if x.E=4 then sm D4 x.A else if x.E=5 then sm D5 (x.A.drop x.I.toNat)-x.sub.toNat else if x.E=6 then x.I.toNat else ((x.A.length:Int)-x.I).toNat
def mu(x:Hp):Nat:=if x.E=0 then 0 else (6-x.E).toNat*2000000+part x+1
theorem Snd.pbound(h:Snd x):part x<2000000:=by
 have f:=h.ok.n8
 have d:∀c,c∈x.A->c.F.length<=200:=λc a=>by
  obtain⟨i,b,e⟩:=List.getElem_of_mem a;have:=h.ok.p200 i b;rw[<-e,Hp.c_eq x i b];exact this
 have g:=h.r1.I;unfold part
 split
 ·have:=c6a D2 203 x.A (λc a=>by have:=d c a;unfold D2;split <;> (try split) <;> omega);omega
 split
 ·have:=c6a D4 1 x.A (λc a=>by unfold D4;split <;> omega);omega
 split
 ·have:=c6a D5 201 (x.A.drop x.I.toNat) (λc a=>by have:=d c (List.mem_of_mem_drop a);unfold D5;omega);simp only [List.length_drop] at this;omega
 split <;> omega
theorem Snd.mu_le(h:Snd x):mu x<=14000000:=by
 have a:=h.pbound;have:=h.r1.E;unfold mu;split <;> omega
theorem a3s(c:y.E=x.E)(b:x.E≠0)(a:part y<part x):mu y<mu x:=by grind [part,mu]
theorem b0u(s:Snd y)(b:y.E=x.E+1)(a:1<=x.E/\x.E<=5):mu y<mu x:=by grind [mu,Snd.pbound]
theorem c7p(x:Hp)(i:Nat)(d:i<x.A.length):sm D2 (uD x i).A+(uD x i).D.length=sm D2 x.A+x.D.length:=by
 unfold uD;by_cases a:eQ x i=true
 ·rw[if_pos a];have b:=(a6f a).2;have:=b5n D2 x.A i (tQ (x.c i)) d;have e:D2 (tQ (x.c i))=(x.c i).F.length+2:=by simp [D2,tQ,b.1]
  have f:D2 (x.c i)=(x.c i).F.length+3:=by simp [D2,b.1,b.2]
  rw[Hp.c_eq x i d,e,f] at this;simp only [List.length_append,List.length_singleton];omega
 ·rw[if_neg a]
theorem a9q(x:Hp)(y:Wd)(a:dQ x y):sm D2 (shadeW x y).A+(shadeW x y).D.length=sm D2 x.A+x.D.length:=by grind [dQ,sm,D2,shadeW,uX.A,c7p]
theorem c1o:∀(ys:List Wd) (z:Hp),(∀y,y∈ys->dQ z y)->sm D2 (ys.foldl shadeW z).A+(ys.foldl shadeW z).D.length=sm D2 z.A+z.D.length
 | [],_,_=>rfl
 | y::ys,z,h=>by
  have h1:=h y (by simp);rw[List.foldl_cons,c1o ys (shadeW z y) (λu hu=>(h u (by simp [hu])).keep (a0b z y).2.1 (a3d z y h1)),a9q z y h1]
theorem b5o(x:Hp)(y:Wd):x.D.length<=(shadeW x y).D.length:=by
 obtain⟨L,e⟩:=b3j x y;rw[e];simp
theorem Snd.less{x:Hp}(h:Snd x)(C:x.E≠0):mu (cE x)<mu x:=by
 have hr:=h.r1.E;have hh:=h.r1.I;have hs:=h.r1.sub;by_cases j:x.E=1
 ·have s:=h.u1 j;rw[show cE x=dC x by unfold cE;rw[if_pos j]];unfold dC at s ⊢
  split
  ·rename_i e;rw[if_pos e] at s;exact b0u s (by show(2:Int)=x.E+1;omega) ⟨by omega,by omega⟩
  ·grind [Snd.I,uX.A,cU,a3s,yZ,Hp.c,uD,part,mu,cE]
 by_cases a:x.E=2
 ·have s:=h.u2 a;have B:=h.r6.2.1 a
  have A:∀z:Hp,z.E=2->part z=sm D2 z.A-z.sub.toNat:=λz l=>by
   unfold part;rw[if_pos l]
  rw[show cE x=cX x by unfold cE;rw[if_neg j,if_pos a]];cases d:x.D with
  | cons g G=>
   have O:=B.2.2 (by rw[d];simp);have eg:x.g0=g.toNat:=by simp [Hp.g0,d]
   rw[eg] at O
   have m:∃i:Nat,g=(i:Int)/\i<x.A.length/\(x.c i).st=1/\(x.c i).J=1:=by
    have n:g∈x.D:=by rw[d];exact List.mem_cons_self ..
    have Q:=b1k h.r2 h.r5 g n;have X:=h.r5.2.2 g n;refine⟨g.toNat,by omega,by omega,Q.2,Q.1⟩
   obtain⟨i,rfl,k,v,I⟩:=m;have R:((i:Int)).toNat=i:=by omega
   rw[R] at O;have d2:D2 (x.c i)=(x.c i).F.length+2:=by simp [D2,v,I]
   have Y:D2 (x.c i)<=sm D2 x.A:=by
    have:=b5n D2 x.A i Cl0 k;have z0:D2 Cl0=0:=by simp [D2,Cl0]
    rw[Hp.c_eq x i k,z0] at this;omega
   unfold cX;rw[d];simp only [R];by_cases E:x.sub<(x.c i).F.length
   ·rw[if_pos E];have K:=h.good_pair (.inr a) i x.sub.toNat k (by omega);have T:=a0b x ((x.c i).p x.sub.toNat).key;have gk:=K.2.keep T.2.1 (a3d x _ K.1);have W:=a0b (shadeW x ((x.c i).p x.sub.toNat).key) ((x.c i).p x.sub.toNat).val;have s1:=a9q x _ K.1;have s2:=a9q _ _ gk;have g1:=b5o x ((x.c i).p x.sub.toNat).key;have g2:=b5o (shadeW x ((x.c i).p x.sub.toNat).key) ((x.c i).p x.sub.toNat).val;have L:(shadeW (shadeW x ((x.c i).p x.sub.toNat).key) ((x.c i).p x.sub.toNat).val).E=x.E:=by rw[W.2.2.1,T.2.2.1]
    refine a3s L C ?_;rw[A x a,A _ (by show(shadeW (shadeW x ((x.c i).p x.sub.toNat).key) ((x.c i).p x.sub.toNat).val).E=2;rw[L];exact a)];show sm D2 (shadeW (shadeW x ((x.c i).p x.sub.toNat).key) ((x.c i).p x.sub.toNat).val).A-(x.sub+1).toNat<_;omega
   ·grind [a3s,sm,D2,uX.A,qC.set,a1j,Hp.c,b5n,Hp.c_eq,mu]
  | nil=>
   have H:=(h.look a).1;have J:=B.2.1 (by rw[d];rfl);unfold cX at s ⊢;rw[d] at s ⊢;simp only at s ⊢;by_cases D:(eE x).D=[]
   ·rw[if_pos D] at s ⊢;exact b0u s (by show(3:Int)=x.E+1;omega) ⟨by omega,by omega⟩
   ·rw[if_neg D];refine a3s H.E C ?_;rw[A x a,A _ (by rw[H.E];exact a),H.sub,J]
    have Z:=c1o x.B x (λy V=>by
     obtain⟨i,k,e⟩:=List.getElem_of_mem V;rw[<-e];exact h.good_reg i k)
    have r:sm D2 (eE x).A+(eE x).D.length=sm D2 x.A+x.D.length:=Z;have:(eE x).D.length≠0:=λe=>D (List.eq_nil_of_length_eq_zero e)
    rw[d] at r;simp only [List.length_nil] at r;simp only [Int.toNat_zero];omega
 by_cases w:x.E=3
 ·have s:=h.u3 w
  have e3:∀z:Hp,z.E=3->part z=((z.A.length:Int)-z.I).toNat:=λz l=>by grind [part,uX.A,Snd.I,mu,cE]
  rw[show cE x=cY x by unfold cE;rw[if_neg j,if_neg a,if_pos w]];unfold cY at s ⊢
  split
  ·rename_i e;rw[if_pos e] at s;exact b0u s (by show(4:Int)=x.E+1;omega) ⟨by omega,by omega⟩
  ·grind [a3s,mu,cE]
 by_cases u:x.E=4
 ·have s:=h.u4 u
  have N:∀z:Hp,z.E=4->part z=sm D4 z.A:=λz l=>by
   unfold part;rw[if_neg (by omega),if_pos l]
  rw[show cE x=unit4 x by unfold cE;rw[if_neg j,if_neg a,if_neg w,if_pos u]];unfold unit4 at s ⊢
  split
  ·rename_i e;rw[if_pos e] at s;exact b0u s (by show(5:Int)=x.E+1;omega) ⟨by omega,by omega⟩
  ·rename_i e;have U:=a1b x;rcases a1s x x.A.length with⟨q,_⟩ | ⟨f,q,hf,v,_⟩
   ·omega
   ·rw[q] at e ⊢;have ef:((f:Int)).toNat=f:=by omega
    rw[ef];obtain⟨t,ht⟩:∃t,t=uV x:=⟨_,rfl⟩;rw[<-ht] at U e ⊢
    have F:=U.2.2 (by omega);refine a3s rfl C ?_;rw[N x u];refine Nat.lt_of_le_of_lt (Nat.le_of_eq (N _ ?_)) ?_
    ·exact u
    show sm D4 ((x.A.set t (x.c f)).set f (mvC t))<_;have a1:=b5n D4 x.A t (x.c f) (by omega);have a2:=b5n D4 (x.A.set t (x.c f)) f (mvC t) (by rw[List.length_set];exact hf)
    have a3:(x.A.set t (x.c f))[f]'(by rw[List.length_set];exact hf)=x.c f:=by
     rw[List.getElem_set,if_neg (by omega),Hp.c_eq]
    rw[a3] at a2;rw[Hp.c_eq x t (by omega)] at a1
    have b2:D4 (mvC t)=0:=by simp [D4,mvC]
    have b3:D4 (x.c t)=1:=by simp [D4,F]
    omega
 by_cases o:x.E=5
 ·have s:=h.u5 o;have B:=h.r6.2.2.1 o
  have P:∀z:Hp,z.E=5->part z=sm D5 (z.A.drop z.I.toNat)-z.sub.toNat:=λz l=>by
   unfold part;rw[if_neg (by omega),if_neg (by omega),if_pos l]
  rw[show cE x=cV x by unfold cE;rw[if_neg j,if_neg a,if_neg w,if_neg u,if_pos o]];unfold cV at s ⊢
  split
  ·rename_i e;rw[if_pos e] at s;exact b0u s (by show(6:Int)=x.E+1;omega) ⟨by omega,by omega⟩
  ·rename_i e;obtain⟨i,k⟩:∃i:Nat,x.I=(i:Int):=⟨x.I.toNat,by omega⟩;have b:i<x.A.length:=by omega
   have S:x.I.toNat=i:=by omega
   rw[S] at B ⊢
   have M:x.sub<=(x.c i).F.length:=by grind [Hp.c,mu,cE]
   have dr:=sm_drop D5 x.A i b;have d5:D5 x.A[i]=(x.c i).F.length+1:=by rw[Hp.c_eq x i b];rfl
   split
   ·refine a3s rfl C ?_;rw[P x o];refine Nat.lt_of_le_of_lt (Nat.le_of_eq (P _ ?_)) ?_
    ·exact o
    show sm D5 ((x.A.set i (qH x (x.c i) x.sub.toNat)).drop x.I.toNat)-(x.sub+1).toNat<_;rw[c1n D5 x.A i _ _ b (by rw[Hp.c_eq x i b];simp [D5,qH]),S];omega
   ·grind [a3s,sm,D5,uX.A,Snd.drop,Snd.I,mu,cE]
 ·grind [part,Snd.I,cE,hE,mu,qE,cJ,a3s]
def regTo(x:Hp)(r:Nat)(y:Wd):Hp:={ x with B:=x.B.set r y }
theorem Snd.regTo(h:Snd x)(r:Nat)(y:Wd)(hy:hU x y False):Snd (regTo x r y) where
 r1:=⟨h.r1.M,by simp [Proofs.YtddkhnclmeikfaaGreat.regTo];exact h.r1.B,h.r1.A,h.r1.D,h.r1.born,h.r1.Q,h.r1.S,h.r1.per,h.r1.V,h.r1.E,h.r1.I,h.r1.sub⟩
 r2:=h.r2
 r3:=h.r3
 r4:=⟨λi hi=>by
  have hi2:i<x.B.length:=by simpa [Proofs.YtddkhnclmeikfaaGreat.regTo] using hi
  by_cases e:r=i
  ·subst e;have:(Proofs.YtddkhnclmeikfaaGreat.regTo x r y).B[r]=y:=by simp [Proofs.YtddkhnclmeikfaaGreat.regTo]
   rw[this];exact hy
  ·have:(Proofs.YtddkhnclmeikfaaGreat.regTo x r y).B[i]=x.B[i]:=by simp [Proofs.YtddkhnclmeikfaaGreat.regTo,List.getElem_set_ne e]
   rw[this];exact h.r4.1 i hi2,h.r4.2⟩
 r5:=h.r5
 r6:=h.r6
 r7:=h.r7
 r8:=h.r8
def paceTo(x:Hp)(p s:Int):Hp:={ x with per:=p,V:=s }
theorem Snd.paceTo(h:Snd x)(p s:Int)(hp:0<=p/\p<=64)(hs:0<=s/\s<=4000):Snd (paceTo x p s) where
 r1:=⟨h.r1.M,h.r1.B,h.r1.A,h.r1.D,h.r1.born,h.r1.Q,h.r1.S,hp,hs,h.r1.E,h.r1.I,h.r1.sub⟩
 r2:=h.r2
 r3:=h.r3
 r4:=h.r4
 r5:=h.r5
 r6:=h.r6
 r7:=h.r7
 r8:=h.r8
def forceTo(x:Hp):Hp:={ x with S:=if x.S<1000000000 then x.S+1 else x.S }
theorem Snd.forceTo(h:Snd x):Snd (forceTo x) where
 r1:=⟨h.r1.M,h.r1.B,h.r1.A,h.r1.D,h.r1.born,h.r1.Q,by have:=h.r1.S;show 0<=(if x.S<1000000000 then x.S+1 else x.S)/\(if x.S<1000000000 then x.S+1 else x.S)<=1000000000;split <;> omega,h.r1.per,h.r1.V,h.r1.E,h.r1.I,h.r1.sub⟩
 r2:=h.r2
 r3:=h.r3
 r4:=h.r4
 r5:=h.r5
 r6:=h.r6
 r7:=h.r7
 r8:=h.r8
def itU:Nat->Hp->Hp
 | 0,x=>x
 | k+1,x=>cE (itU k x)
theorem Snd.itU{x:Hp}(h:Snd x):∀k,Snd (itU k x)
 | 0=>h
 | k+1=>(Snd.itU h k).unit
def yD(x:Hp)(k:Nat):Prop:=∀j,j<k->(itU j x).E≠0
def c1p(x:Hp)(k:Nat):Prop:=(itU k x).E=0/\yD x k
theorem yD.zero(x:Hp):yD x 0:=λj h=>by omega
theorem yD.succ(h:yD x k)(a:(itU k x).E≠0):yD x (k+1):=by grind [yD,itU,Snd.itU]
theorem yD.mu{x:Hp}(s:Snd x):∀k,yD x k->mu (itU k x)+k<=mu x
 | 0,_=>by simp [Go.Proofs.YtddkhnclmeikfaaGreat.itU]
 | k+1,h=>by
  have h1:=yD.mu s k (λj hj=>h j (by omega));have h2:=(s.itU k).less (h k (by omega));simp only [Go.Proofs.YtddkhnclmeikfaaGreat.itU];omega
theorem yD.le(s:Snd x)(h:yD x k):k<=14000000:=by
 have:=yD.mu s k h;have:=s.mu_le;omega
def a7p(x:Hp)(n k:Nat):Prop:=yD x k/\k<=n/\(k=n\/(itU k x).E=0)
def b2g(x:Hp)(y:Hp):Prop:=∃k,c1p x k/\y=itU k x
theorem b2g.snd(s:Snd x)(h:b2g x y):Snd y/\y.E=0:=by
 obtain⟨k,a,b⟩:=h;rw[b];exact⟨s.itU k,a.1⟩
def stepH(x:Hp)(n:Nat):Hp:=if x.E=0/\n≠0 then cZ x 1 0 else x
theorem Snd.stepH(s:Snd x)(n:Nat):Snd (stepH x n):=by grind [stepH,Snd.begin]
def a2q(x:Hp)(u:Nat):Bool:=decide (x.K+u<=x.M)
def c1q(x z:Hp):Prop:=∃y,b2g x y/\b2g (cZ y 1 0) z
theorem c1q.snd(s:Snd x)(h:c1q x z):Snd z:=by grind [c1q,b2g.snd,dX.snd,Snd.begin]
def a4x(x:Hp)(u:Nat)(y:Hp):Prop:=(a2q x u=true/\y=x)\/(a2q x u=false/\c1q (forceTo x) y)
theorem a4x.snd(s:Snd x)(h:a4x x u y):Snd y:=by
 rcases h with⟨_,h⟩ | ⟨_,h⟩
 ·rw[h];exact s
 ·exact h.snd s.forceTo
def b0v(x:Hp)(u:Nat):Bool:=x.per == 0 || (u == 0 || (x.E == 0 && decide (x.K<=x.V)))
def a4y(x:Hp)(u:Nat)(y:Hp):Prop:=(b0v x u=true/\y=x)\/(b0v x u=false/\∃k,a7p (stepH x (x.per.toNat*u)) (x.per.toNat*u) k/\y=itU k (stepH x (x.per.toNat*u)))
theorem a4y.snd(s:Snd x)(h:a4y x u y):Snd y:=by grind [a4y,stepH,Snd.stepH,itU,Snd.itU]
def tZ(c:Cl)(n:Nat):Cl:={ c with F:=c.F++List.replicate n Pr0 }
def zU(x:Hp)(i n:Nat):Hp:={ x with A:=x.A.set i (tZ (x.c i) n),K:=x.K+n }
theorem a3g(x:Hp)(i n:Nat)(a:i<x.A.length)(q:Nat):(zU x i n).c q=if q=i then tZ (x.c i) n else x.c q:=Hp.c_set x i (tZ (x.c i) n) a q
theorem a0o(x:Hp)(i n:Nat):(zU x i n).A.length=x.A.length:=by simp [zU]
theorem a1e(x:Hp)(i n:Nat)(a:i<x.A.length)(q:Nat):((zU x i n).c q).st=(x.c q).st/\((zU x i n).c q).kind=(x.c q).kind/\((zU x i n).c q).T=(x.c q).T/\((zU x i n).c q).U=(x.c q).U/\((zU x i n).c q).born=(x.c q).born/\((zU x i n).c q).J=(x.c q).J/\((zU x i n).c q).to=(x.c q).to:=by
 rw[a3g x i n a q];by_cases e:q=i
 ·rw[if_pos e,e];exact⟨rfl,rfl,rfl,rfl,rfl,rfl,rfl⟩
 ·grind [zU,Hp.c]
theorem c6c(c:Cl)(n k:Nat):(tZ c n).p k=if k<c.F.length then c.p k else Pr0:=by
 unfold Cl.p tZ;by_cases h:k<c.F.length
 ·grind [Hp.c,tZ,Cl.p,Pr0]
 ·grind [Hp.c,tZ,Cl.p,Pr0]
theorem a3t(x:Hp)(i n:Nat)(b:i<x.A.length)(q:Nat):uE (zU x i n) q↔uE x q:=by
 have a:=a1e x i n b q;unfold uE;rw[a.1,a.2.2.2.2.2.1];exact Iff.rfl
theorem a7s(x:Hp)(i n:Nat)(b:i<x.A.length)(y:Wd)(m:Prop):hU (zU x i n) y m↔hU x y m:=by
 have a:=a1e x i n b y.a.toNat;unfold hU;rw[a0o,a.1,a3t x i n b]
theorem Snd.grow(h:Snd x)(i n:Nat)(l:i<x.A.length)(I:(x.c i).st=1)(hl:(x.c i).F.length+n<=200)(hu:x.K+n<=x.M):Snd (zU x i n) where
 r1:=⟨h.r1.M,h.r1.B,by rw[a0o];exact h.r1.A,by rw[a0o];exact h.r1.D,h.r1.born,h.r1.Q,h.r1.S,h.r1.per,h.r1.V,h.r1.E,by rw[a0o];exact h.r1.I,h.r1.sub⟩
 r2:=⟨λq f=>by
  rw[a0o] at f;have K:=h.r2.1 q f;have Q:=a1e x i n l (x.c q).to.toNat;by_cases e:q=i
  ·subst e;rcases K with o | o | o
   ·omega
   ·omega
   ·refine .inr (.inr ⟨?_,?_⟩)
    ·rw[a3g x q n l q,if_pos rfl];exact I
    ·rw[a3g x q n l q,if_pos rfl];obtain⟨_,O,T,R,o4,W,o6,o7⟩:=o;exact⟨O,T,R,o4,W,o6,by simp [tZ];omega⟩
  ·have X:(zU x i n).c q=x.c q:=by rw[a3g x i n l q,if_neg e]
   unfold hJ;rw[X];rcases K with o | ⟨o,m⟩ | o
   ·exact .inl o
   ·refine .inr (.inl ⟨o,m.1,m.2.1,m.2.2.1,m.2.2.2.1,by rw[Q.1];exact m.2.2.2.2.1,λA k t=>?_⟩);have C:=a1e x i n l k;rw[C.1];exact m.2.2.2.2.2 A k t
   ·exact .inr (.inr o),λq f N k t=>by
  rw[a0o] at f;have z:=a1e x i n l q;have C:=a1e x i n l k;rw[z.1] at N;rw[C.1,C.2.2.2.2.1,C.2.2.2.2.2.2,z.1,z.2.2.2.2.1,z.2.2.2.2.2.2];exact h.r2.2 q f N k t⟩
 r3:=by
  have u:=a2e x.A i (tZ (x.c i) n) l;rw[Hp.c_eq x i l] at u;have S:hV (x.c i)=1+(x.c i).F.length:=by unfold hV;rw[if_pos I]
  have Y:hV (tZ (x.c i) n)=1+((x.c i).F.length+n):=by
   unfold hV;rw[if_pos (show(tZ (x.c i) n).st=1 from I)];simp [tZ]
  rw[S,Y] at u;have r:=h.r3;refine⟨?_,hu⟩;show x.K+(n:Int)=(units (x.A.set i (tZ (x.c i) n)):Nat);have:=r.1;omega
 r4:=⟨λj hj=>(a7s x i n l _ _).2 (h.r4.1 j hj),λq f=>by
  rw[a0o] at f;have z:=a1e x i n l q;refine⟨λ⟨d,s⟩=>(h.r4.2 q f).1 ⟨(a3t x i n l q).1 d,by unfold hQ at s ⊢;rw[z.2.2.2.1] at s;exact s⟩,λk t=>?_⟩
  have B:∀p:Pr,a2u x q k p->a2u (zU x i n) q k p:=λp o=>⟨λd=>by rw[a0o];exact o.1 ((a3t x i n l q).1 d),λd=>by
   have:=o.2 (λd2=>d ((a3t x i n l q).2 d2));exact⟨(a7s x i n l _ _).2 this.1,(a7s x i n l _ _).2 this.2⟩⟩
  by_cases e:q=i
  ·subst e;rw[a3g x q n l q,if_pos rfl] at t ⊢;rw[c6c];by_cases v:k<(x.c q).F.length
   ·rw[if_pos v];exact B _ ((h.r4.2 q f).2 k v)
   ·rw[if_neg v];have E:∀m:Prop,hU x ⟨0,0,0⟩ m:=λm=>⟨.inl ⟨rfl,rfl,rfl⟩,λh=>by simp at h⟩
    exact B _ ⟨λ_=>⟨(E True).1,(E True).1⟩,λ_=>⟨E _,E _⟩⟩
  ·rw[a3g x i n l q,if_neg e] at t ⊢;exact B _ ((h.r4.2 q f).2 k t)⟩
 r5:=⟨h.r5.1,λq f=>by
  rw[a0o] at f;have z:=a1e x i n l q;unfold eK;rw[z.2.2.2.2.2.1];exact h.r5.2.1 q f,λg F=>by rw[a0o];exact h.r5.2.2 g F⟩
 r6:=by
  have L:∀q,(x.c q).F.length<=((zU x i n).c q).F.length:=λq=>by
   rw[a3g x i n l q];by_cases e:q=i
   ·rw[if_pos e,e];simp [tZ]
   ·rw[if_neg e];exact Nat.le_refl _
  obtain⟨a,b,c,d⟩:=h.r6;refine⟨a,λA=>⟨(b A).1,(b A).2.1,λF=>?_⟩,λA=>⟨λf=>(c A).1 ?_,λf=>?_⟩,d⟩
  ·have Z:=(b A).2.2 F;have V:=L x.g0;show x.sub<=(((zU x i n).c x.g0).F.length:Int);omega
  ·rw[a0o] at f;have:=a1e x i n l x.I.toNat;rcases f with f | f
   ·exact .inl f
   ·exact .inr (by rw[<-this.1];exact f)
  ·rw[a0o] at f;have U:=a1e x i n l x.I.toNat;have Z:=(c A).2 ⟨f.1,by rw[<-U.1];exact f.2⟩;have V:=L x.I.toNat;show x.sub<=(((zU x i n).c x.I.toNat).F.length:Int);omega
 r7:=λP q f=>by
  rw[a0o] at f;have z:=a1e x i n l q;have o:=h.r7 P q f;refine⟨λG=>o.1 ⟨by have:=G.1;unfold hQ at this ⊢;rw[z.2.2.2.1] at this;exact this,by rw[<-z.2.2.2.2.2.1];exact G.2.1,G.2.2⟩,λk t=>?_⟩;have M:∀y:Wd,hY (zU x i n) y->hY x y:=λy J=>⟨J.1,by rw[<-(a1e x i n l y.a.toNat).2.2.2.2.2.1];exact J.2⟩
  have H:∀p:Pr,p=Pr0->¬hY (zU x i n) p.key/\¬hY (zU x i n) p.val:=λp e=>by subst e;exact⟨λw=>by have:=w.1;simp [Pr0] at this,λw=>by have:=w.1;simp [Pr0] at this⟩
  have D:∀k,k<hD x q->(k<(x.c q).F.length->True)->¬hY (zU x i n) ((x.c q).p k).key/\¬hY (zU x i n) ((x.c q).p k).val:=λk t _=>⟨λw=>(o.2 k t).1 (M _ w),λw=>(o.2 k t).2 (M _ w)⟩
  by_cases e:q=i
  ·subst e;rw[a3g x q n l q,if_pos rfl,c6c];by_cases v:k<(x.c q).F.length
   ·rw[if_pos v];refine D k ?_ (λ_=>trivial);unfold hD at t ⊢;rw[z.2.2.2.2.2.1] at t
    split at t
    ·grind [Hp.c,zU]
    ·grind [Hp.c,zU]
   ·rw[if_neg v];exact H _ rfl
  ·rw[a3g x i n l q,if_neg e];refine D k ?_ (λ_=>trivial);unfold hD at t ⊢;rw[a3g x i n l q,if_neg e] at t;exact t
 r8:=λq f=>by
  rw[a0o] at f;rw[(a1e x i n l q).1];exact h.r8 q f
def yH(b k:Int)(n:Nat)(col:Int):Cl:=⟨1,k,0,0,b,col,0,List.replicate n Pr0⟩
def qU(x:Hp)(t:Nat):Int:=if x.E=1\/x.E=2\/(x.E=3/\x.I<=(t:Int)) then 2 else 0
def a5o(x:Hp)(t:Nat)(c:Cl):List Cl:=if t<x.A.length then x.A.set t c else x.A++[c]
def zC(x:Hp)(k:Int)(n:Nat):Hp:={ x with born:=x.born+1,K:=x.K+(1+n),A:=a5o x (uV x) (yH (x.born+1) k n (qU x (uV x))) }
theorem a8n(x:Hp)(t:Nat)(c:Cl):(a5o x t c).length=if t<x.A.length then x.A.length else x.A.length+1:=by
 unfold a5o
 split <;> simp
theorem c6d(x z:Hp)(t:Nat)(c:Cl)(a:t<=x.A.length)(b:z.A=a5o x t c)(q:Nat):z.c q=if q=t then c else x.c q:=by grind [Hp.c,uX.A,a5o]
theorem Snd.crowd{x:Hp}(h:Snd x)(H:∀i,i<x.A.length->(x.c i).st≠0):x.A.length<=2*units x.A:=by
 have f:=h.r2
 let U:=(List.range x.A.length).filter (λi=>(x.c i).st == 1)
 let M:=(List.range x.A.length).filter (λi=>(x.c i).st == 2)
 have K:U.length<=units x.A:=by
  have d:∀m,m<=x.A.length->((List.range m).filter (λi=>(x.c i).st == 1)).length<=units (x.A.take m):=λm=>by
   induction m with
   | zero=>intro _;simp
   | succ m ih=>
    intro q;have s:=ih (by omega);have D:x.A.take (m+1)=x.A.take m++[x.A[m]'(by omega)]:=List.take_succ_eq_append_getElem (by omega);rw[List.range_succ,List.filter_append,List.length_append,D];have C:units (x.A.take m++[x.A[m]'(by omega)])=units (x.A.take m)+hV (x.c m):=by simp [units,Hp.c_eq x m (by omega)]
    rw[C];by_cases e:(x.c m).st=1
    ·grind [hV,Hp.c,units]
    ·simp [e];omega
  have:=d x.A.length (Nat.le_refl _);rw[List.take_length] at this;exact this
 have J:M.length<=U.length:=by
  have F:(M.map (λi=>(x.c i).to.toNat)).Nodup:=by
   rw[List.nodup_iff_pairwise_ne,List.pairwise_map];have G:M.Pairwise (· < ·):=List.Pairwise.filter _ List.pairwise_lt_range;refine List.Pairwise.imp_of_mem (λ{a b} A r o e=>?_) G;have g:=List.mem_filter.1 A;have k:=List.mem_filter.1 r;have E:=List.mem_range.1 g.1;have p:=List.mem_range.1 k.1;have P:(x.c a).st=2:=by simpa using g.2
   have O:(x.c b).st=2:=by simpa using k.2
   have u:=f.1 a E;have B:=f.1 b p;unfold hJ eH yV at u B;exact f.2 b p (by omega) a o ⟨by omega,by omega,by omega⟩
  have l:∀z,z∈M.map (λi=>(x.c i).to.toNat)->z∈U:=λz v=>by
   obtain⟨i,t,e⟩:=List.mem_map.1 v;have j:=List.mem_filter.1 t;have w:=List.mem_range.1 j.1;have N:(x.c i).st=2:=by simpa using j.2
   have y:=f.1 i w;unfold hJ eH at y
   have st:(x.c (x.c i).to.toNat).st=1:=by grind [Hp.c,units]
   rw[<-e];exact List.mem_filter.2 ⟨List.mem_range.2 (by omega),by simpa using st⟩
  have:=List.Nodup.length_le_of_subset F l
  simpa using this
 have L:x.A.length<=U.length+M.length:=by
  have d:∀m,m<=x.A.length->m<=((List.range m).filter (λi=>(x.c i).st == 1)).length+((List.range m).filter (λi=>(x.c i).st == 2)).length:=λm=>by
   induction m with
   | zero=>intro _;omega
   | succ m ih=>
    intro q;have s:=ih (by omega);rw[List.range_succ,List.filter_append,List.filter_append,List.length_append,List.length_append];have:=f.1 m (by omega);have I:=H m (by omega);have n:(x.c m).st=1\/(x.c m).st=2:=by unfold hJ at this;omega
    rcases n with e | e
    ·simp [e];omega
    ·simp [e];omega
  exact d x.A.length (Nat.le_refl _)
 omega
theorem newC_p(b k:Int)(n:Nat)(a:Int)(j:Nat):(yH b k n a).p j=Pr0:=by grind [yH,Cl.p,Pr0]
theorem Snd.make(h:Snd x)(k:Int)(n:Nat)(hk:0<=k/\k<=255)(hn:n<=200)(hb:x.born<1000000000)(hu:x.K+(1+n)<=x.M):Snd (zC x k n)/\((zC x k n).c (uV x)).st=1/\uV x<(zC x k n).A.length/\¬uE (zC x k n) (uV x):=by
 obtain⟨f1,f2,f3⟩:=a1b x;obtain⟨t,ht⟩:∃t,t=uV x:=⟨_,rfl⟩;obtain⟨c,I⟩:∃c,c=yH (x.born+1) k n (qU x t):=⟨_,rfl⟩;obtain⟨z,G⟩:∃z,z=zC x k n:=⟨_,rfl⟩;rw[<-ht] at f1 f2 f3 ⊢;have P:z.A=a5o x t c:=by rw[G,I,ht];rfl
 have zc:∀q,z.c q=if q=t then c else x.c q:=c6d x z t c f1 P
 have zl:z.A.length=if t<x.A.length then x.A.length else x.A.length+1:=by rw[P];exact a8n x t c
 have ab:x.A.length<=z.A.length:=by rw[zl];split <;> omega
 have Q:∀q,q<z.A.length->q=t\/(q≠t/\q<x.A.length):=λq D=>by grind [uX.A,zC,Hp.c,uV,uE]
 have tl:t<z.A.length:=by rw[zl];split <;> omega
 have u:∀q,q≠t->z.c q=x.c q:=λq e=>by rw[zc q,if_neg e]
 have K:z.c t=c:=by rw[zc t,if_pos rfl]
 have V:∀q,q<x.A.length->(x.c q).st≠0->q≠t:=λq D hs e=>by subst e;exact hs (f3 D)
 have M:z.M=x.M:=by rw[G];rfl
 have Y:z.K=x.K+(1+n):=by rw[G];rfl
 have X:z.born=x.born+1:=by rw[G];rfl
 have L:z.B=x.B:=by rw[G];rfl
 have r:z.E=x.E:=by rw[G];rfl
 have A:z.I=x.I:=by rw[G];rfl
 have E:z.sub=x.sub:=by rw[G];rfl
 have C:z.D=x.D:=by rw[G];rfl
 have B:z.per=x.per/\z.V=x.V/\z.Q=x.Q/\z.S=x.S:=by rw[G];exact⟨rfl,rfl,rfl,rfl⟩
 have O:c.st=1:=by rw[I];rfl
 have ah:c.born=x.born+1:=by rw[I];rfl
 have ac:c.to=0:=by rw[I];rfl
 have ai:c.U=0:=by rw[I];rfl
 have W:c.J=qU x t:=by rw[I];rfl
 have Z:c.F.length=n:=by rw[I];simp [yH]
 have cp:∀j,c.p j=Pr0:=λj=>by rw[I];exact newC_p _ _ _ _ j
 have R:¬uE z t:=λd=>by grind [uE,qU,zC,Hp.c,uV]
 have dm:∀q,q≠t->(uE z q↔uE x q):=λq e=>by unfold uE;rw[r,A,u q e]
 have fm:∀y:Wd,uW y x.A.length->uW y z.A.length:=λy f=>by unfold uW at f ⊢;omega
 have ld:∀(y:Wd) (m:Prop),hU x y m->hU z y m:=λy m l=>⟨fm y l.1,λhk=>by grind [hU,uW,uX.A,zC,Hp.c,uV,uE]⟩
 have nl:∀m:Prop,hU z ⟨0,0,0⟩ m:=λm=>⟨.inl ⟨rfl,rfl,rfl⟩,λh=>by simp at h⟩
 have us:x.K=(units x.A:Nat):=h.r3.1;rw[<-G];refine⟨⟨?_,?_,?_,?_,?_,?_,?_,?_⟩,by rw[K];exact O,tl,R⟩
 ·have rc:=h.r1.A;have rr:=h.r1.M;refine⟨by rw[M];exact rr,by rw[L];exact h.r1.B,?_,by rw[C];exact Nat.le_trans h.r1.D ab,by rw[X];have:=h.r1.born;omega,by rw[B.2.2.1];exact h.r1.Q,by rw[B.2.2.2];exact h.r1.S,by rw[B.1];exact h.r1.per,by rw[B.2.1];exact h.r1.V,by rw[r];exact h.r1.E,by rw[A];have:=h.r1.I;omega,by rw[E];exact h.r1.sub⟩;rw[M,zl];by_cases e:t<x.A.length
  ·rw[if_pos e];exact rc
  ·grind [Snd.crowd,zC,Hp.c,uV,uE]
 ·refine⟨λq D=>?_,λq D h0 j H N=>?_⟩
  ·rcases Q q D with e | ⟨e,v⟩
   ·subst e;refine .inr (.inr ⟨by rw[K];exact O,?_⟩);rw[K];have cc:0<=c.J/\c.J<=2:=by rw[W];unfold qU;split <;> omega
    have ck:c.kind=k:=by rw[I];rfl
    have cw:c.T=0:=by rw[I];rfl
    have:=h.r1.born;exact⟨by rw[ck];exact hk,by omega,by omega,by rw[X];omega,cc,ac,by omega⟩
   ·have U:=h.r2.1 q v;unfold hJ;rw[u q e];rcases U with o | ⟨o,m⟩ | ⟨o,m⟩
    ·exact .inl o
    ·have mt:=m.2.2.2.2.1;have tt:=m.2.2.2.1;have t0:=m.2.2.1;have J:=V (x.c q).to.toNat (by omega) (by rw[mt];omega);refine .inr (.inl ⟨o,m.1,by rw[r];exact m.2.1,t0,tt,by rw[u _ J];exact mt,λF j H=>?_⟩);rw[r] at F;have:=m.2.2.2.2.2 F j H;by_cases ej:j=t
     ·rw[ej,K];omega
     ·rw[u j ej];exact this
    ·grind [a2t,zC,Hp.c,uV,uE]
  ·have ag:∀a,a≠t->a<x.A.length->(x.c a).st=1->(x.c a).born<=x.born:=λa _ ha hs=>by
    have:=h.r2.1 a ha;unfold hJ a2t at this;omega
   rcases Q q D with e | ⟨e,v⟩
   ·grind [zC,Hp.c,uV,uE]
   ·rcases Q j (by omega) with J | ⟨J,af⟩
    ·grind [zC,Hp.c,uV,uE]
    ·rw[u j J,u q e] at N;rw[u q e] at h0;exact h.r2.2 q v h0 j H N
 ·refine⟨?_,by rw[Y,M];exact hu⟩;rw[Y,P];have uc:hV c=1+n:=by unfold hV;rw[if_pos O,Z]
  unfold a5o;by_cases e:t<x.A.length
  ·grind [a2e,uX.A,Hp.c,Hp.c_eq,hV,zC,uV,uE]
  ·grind [units,uX.A,Hp.c,hV,zC,uV,uE]
 ·refine⟨λi hi=>?_,λq D=>?_⟩
  ·have e:z.B[i]=x.B[i]'(by rw[<-L];exact hi):=by simp only [L]
   rw[e];exact ld _ _ (h.r4.1 i (by rw[<-L];exact hi))
  ·rcases Q q D with e | ⟨e,v⟩
   ·subst e;refine⟨λd=>R d.1,λj H=>?_⟩;rw[K,cp j];exact⟨λd=>(R d).elim,λ_=>⟨nl _,nl _⟩⟩
   ·have o:=h.r4.2 q v;have md:∀j,cH z q j↔cH x q j:=λj=>by unfold cH;rw[r,A,E]
    rw[u q e];refine⟨λd=>o.1 ⟨(dm q e).1 d.1,d.2⟩,λj H=>?_⟩;have p:=o.2 j H;refine⟨λd=>?_,λd=>?_⟩
    ·have:=p.1 ((dm q e).1 d);exact⟨fm _ this.1,fm _ this.2⟩
    ·have:=p.2 (λd2=>d ((dm q e).2 d2));have em:(¬cH z q j)=(¬cH x q j):=propext (not_congr (md j));rw[em];exact⟨ld _ _ this.1,ld _ _ this.2⟩
 ·refine⟨λT=>by rw[C];exact h.r5.1 (λm=>T (by unfold uY at m ⊢;rw[r];exact m)),λq D=>?_,λg S=>?_⟩
  ·rcases Q q D with e | ⟨e,v⟩
   ·subst e
    have c0:cnt x.D q=0:=by
     by_cases e:q<x.A.length
     ·have U:=h.r2.1 q e;have s0:=f3 e;have:(x.c q).J≠1:=by unfold hJ yV at U;omega
      exact(h.r5.2.1 q e).2.1 this
     ·unfold cnt;rw[List.count_eq_zero];intro S;have:=h.r5.2.2 _ S;omega
    unfold eK;rw[K,C,r,A,W];refine⟨λe1=>?_,λ_=>c0,λJ=>?_⟩
    ·unfold qU at e1;split at e1 <;> omega
    ·grind [qU,uY,zC,Hp.c,uV,uE]
   ·have o:=h.r5.2.1 q v;unfold eK at o ⊢;rw[u q e,C,r,A]
    exact⟨o.1,o.2.1,λJ=>by grind [uY,zC,Hp.c,uV,uE]⟩
  ·rw[C] at S;have:=h.r5.2.2 g S;omega
 ·obtain⟨a,b,d,e⟩:=h.r6;refine⟨λF=>by rw[r] at F;rw[A,E];exact a F,λF=>?_,λF=>?_,λF=>by rw[r] at F;rw[E];exact e F⟩
  ·rw[r] at F;have b2:=b F;have eg:z.g0=x.g0:=by unfold Hp.g0;rw[C]
   rw[A,C,E,eg];refine⟨b2.1,b2.2.1,λS=>?_⟩;have hs:=b2.2.2 S
   have gl:(x.D.getD 0 0)∈x.D:=by grind [tJ.nil,zC,Hp.c,uV,uE]
   have gr:=h.r5.2.2 _ gl;have ad:x.g0<x.A.length:=by unfold Hp.g0;omega
   by_cases J:x.g0=t
   ·have s0:=f3 (by omega);rw[<-J] at s0;have U:=h.r2.1 x.g0 ad;have p0:(x.c x.g0).F.length=0:=by unfold hJ yV at U;omega
    rw[J,K,Z];omega
   ·rw[u _ J];exact hs
  ·rw[r] at F;have hh:=h.r1.I;rw[A,E];have ae:x.I.toNat=t\/x.I.toNat≠t:=by omega
   refine⟨λD=>?_,λD=>?_⟩
   ·grind [zC,Hp.c,uV,uE]
   ·grind [uX.A,zC,Hp.c,uV,uE]
 ·intro T q D;have aa:uY x:=by unfold uY at T ⊢;rw[r] at T;exact T
  have wh:∀y:Wd,hY z y->hY x y:=λy hy=>⟨hy.1,by grind [hY,qU,uY,zC,Hp.c,uV,uE]⟩
  rcases Q q D with e | ⟨e,v⟩
  ·subst e;rw[K];refine⟨λs=>?_,λj _=>?_⟩
   ·have:=s.1;unfold hQ at this;omega
   ·rw[cp j];exact⟨λw=>by have:=w.1;simp [Pr0] at this,λw=>by have:=w.1;simp [Pr0] at this⟩
  ·have o:=h.r7 aa q v;rw[u q e,r,A];refine⟨o.1,λj H=>?_⟩;have lk:hD z q=hD x q:=by unfold hD;rw[u q e,r,C,E]
   rw[lk] at H;exact⟨λw=>(o.2 j H).1 (wh _ w),λw=>(o.2 j H).2 (wh _ w)⟩
 ·intro q D;rw[r,A];rcases Q q D with e | ⟨e,v⟩
  ·subst e;rw[K];intro N;omega
  ·rw[u q e];exact h.r8 q v
def yE(x:Hp):Nat:=if x.E=1\/x.E=2 then 16000 else if x.E=3 then 8000+(x.A.length-x.I.toNat) else if x.E=4\/x.E=5 then 8000 else if x.E=6 then x.I.toNat else 0
def KOk(x:Hp)(h:Nat)(K:List Nat):Prop:=K.Pairwise (· < ·)/\(∀i,i∈K->i<h/\(x.c i).st=1)/\∀i,i<h->(x.c i).st=1->i ∉ K->∀j,j<x.A.length->(x.c j).st=0->i<j
structure zW(C:Nat)(x:Hp)(F:List Int)(K:List Nat):Prop where
 ho:Ho F
 al:∀i,i<x.A.length->(x.c i).st=0->(i:Int)∈F
 nn:∀v,v∈F->0<=v
 le:F.length+yE x<=C
 k3:x.E=3->KOk x x.I.toNat K
 k4:x.E=4->K.Pairwise (· < ·)/\(∀i,i∈K->i<x.A.length/\(x.c i).st=1)/\∀i,i<x.A.length->(x.c i).st=1->i ∉ K->∀j,j<x.A.length->(x.c j).st=0->i<j
 k0:x.E≠3->x.E≠4->K=[]
abbrev stpV(x:Hp)(k:Nat)(vr vc vg:Value):Value:=.agg #[iv x.M,iv x.K,iv x.born,vr,vc,iv x.E,iv x.I,iv x.sub,vg,iv x.per,iv x.V,iv x.Q,iv x.S,iv k]
def StOk(x:Hp)(n:Int):Prop:=dX x 0/\0<=n/\n<=100000
def StIs(x:Hp)(n:Int)(y:Hp)(k:Nat):Prop:=(StOk x n/\a7p (stepH x n.toNat) n.toNat k/\y=itU k (stepH x n.toNat))\/(¬StOk x n/\y=Hp0/\k=0)
def RoIs(x y:Hp):Prop:=(dX x 0/\∃z,b2g x z/\b2g (cZ z 1 0) y)\/(¬dX x 0/\y=Hp0)
end Go.Proofs.YtddkhnclmeikfaaGreat
