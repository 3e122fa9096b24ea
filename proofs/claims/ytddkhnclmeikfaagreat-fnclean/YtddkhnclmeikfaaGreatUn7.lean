import Derived.Test.YtddkhnclmeikfaaGreatSh1
namespace Go.Proofs.YtddkhnclmeikfaaGreat
open Go.RowKit
variable{x z:Hp}{y:Wd}
structure Snd(x:Hp):Prop where
 r1:R1 x
 r2:R2 x
 r3:R3 x
 r4:R4 x
 r5:R5 x
 r6:R6 x
 r7:R7 x
 r8:R8 x
theorem eQ.snd(h:eQ x 0):Snd x:=by
 unfold eQ at h;rcases h with h | h | h | h | h | h | h | h | h
 ·have:=h.2;omega
 ·have:=h.2.2;omega
 ·have:=h.2.2.2;omega
 ·have:=h.2.2.2.2;omega
 ·have:=h.2.2.2.2.2;omega
 ·have:=h.2.2.2.2.2.2;omega
 ·have:=h.2.2.2.2.2.2.2;omega
 ·have:=h.2.2.2.2.2.2.2.2;omega
 ·obtain⟨a,b,c,d,e,f,g,i,_⟩:=h;exact⟨a,b,c,d,e,f,g,i⟩
theorem Snd.ok(h:Snd x):eQ x 0:=by
 unfold eQ;exact .inr (.inr (.inr (.inr (.inr (.inr (.inr (.inr ⟨h.r1,h.r2,h.r3,h.r4,h.r5,h.r6,h.r7,h.r8,rfl⟩)))))))
theorem a5g(x:Hp)(i:Nat)(hi:i<x.A.length)(q:Nat):(uW x i).c q=if eJ x i=true/\q=i then tY (x.c i) else x.c q:=by
 unfold uW;by_cases hb:eJ x i=true
 ·rw[if_pos hb];have:=Hp.c_set x i (tY (x.c i)) hi q;have e:({ x with A:=x.A.set i (tY (x.c i)),D:=x.D++[(i:Int)] }:Hp).c q=({ x with A:=x.A.set i (tY (x.c i)) }:Hp).c q:=rfl;rw[e,this];by_cases h:q=i
  ·rw[if_pos h,if_pos ⟨hb,h⟩]
  ·rw[if_neg h,if_neg (λe=>h e.2)]
 ·rw[if_neg hb,if_neg (λe=>hb e.1)]
theorem a3j(cs:List Cl)(i:Nat)(c:Cl)(hi:i<cs.length)(he:hE c=hE cs[i]):dL (cs.set i c)=dL cs:=by
 induction cs generalizing i with
 | nil=>simp at hi
 | cons a cs ih=>
  cases i with
  | zero=>simp [dL] at he ⊢;exact he
  | succ i=>
   have:=ih i (by simpa using hi) (by simpa using he);simp [dL] at this ⊢;exact this
theorem cV(x:Hp)(i:Nat):(uW x i).M=x.M/\(uW x i).K=x.K/\(uW x i).born=x.born/\(uW x i).B=x.B/\(uW x i).A.length=x.A.length/\(uW x i).E=x.E/\(uW x i).I=x.I/\(uW x i).sub=x.sub/\(uW x i).per=x.per/\(uW x i).V=x.V/\(uW x i).Q=x.Q/\(uW x i).S=x.S:=by
 unfold uW;split <;> simp
def Cl.un(c:Cl):Cl:={ c with J:=0 }
theorem a3u(x:Hp)(i:Nat)(hi:i<x.A.length)(q:Nat):((uW x i).c q).un=(x.c q).un:=by
 rw[a5g x i hi q]
 split
 ·rename_i h;rw[h.2];rfl
 ·rfl
theorem eN{c d:Cl}(h:c.un=d.un):c.st=d.st/\c.kind=d.kind/\c.T=d.T/\c.U=d.U/\c.born=d.born/\c.to=d.to/\c.F=d.F:=by
 cases c;cases d;simp [Cl.un] at h;simp [h]
theorem b1b{y:Hp}(hm:uD x)(hp:y.E=x.E)(hh:y.I=x.I)(hs:y.sub=x.sub)(hb:y.born=x.born)(hu:y.K=x.K)(hro:y.M=x.M)(hr:y.B=x.B)(hl:y.A.length=x.A.length)(hc:∀q,(y.c q).un=(x.c q).un)(hcol:∀q,q<x.A.length->(y.c q).J=(x.c q).J\/((y.c q).st=1/\0<=(y.c q).J/\(y.c q).J<=2))(hun:dL y.A=dL x.A)(h2:R2 x)(h3:R3 x)(h4:R4 x):R2 y/\R3 y/\R4 y/\R8 y:=by
 have hp3:x.E≠3:=by rcases hm with h | h <;> omega
 have nd:∀i,¬hY x i:=λi h=>hp3 h.1
 have nd':∀i,¬hY y i:=λi h=>hp3 (by rw[<-hp];exact h.1)
 have eY:∀(w:Wd) (m m':Prop),(m->m')->cL x w m->cL y w m':=λw m m' hmm h=>by
  refine⟨by rw[hl];exact h.1,λhk=>?_⟩;have e:=(eN (hc w.a.toNat)).1;rcases h.2 hk with⟨h1,h2⟩ | ⟨h1,_⟩
  ·exact .inl ⟨by rw[e];exact h1,hmm h2⟩
  ·exact .inr ⟨by rw[e];exact h1,nd' _⟩
 have men:∀i k,¬cX x i k->¬cX y i k:=λi k h h'=>h ⟨by rw[<-hp];exact h'.1,λh5=>by have:=h'.2 (by rw[hp];exact h5);rw[hh,hs] at this;exact this⟩
 refine⟨⟨λi hi=>?_,λi hi hst k hk hh=>?_⟩,⟨by rw[hu,hun];exact h3.1,by rw[hu,hro];exact h3.2⟩,⟨λi hi=>?_,λi hi=>⟨λh=>nd' i h.1,λk hk=>⟨λh=>(nd' i h).elim,λ_=>?_⟩⟩⟩,λi hi h=>?_⟩
 ·rw[hl] at hi;obtain⟨e1,e2,e3,e4,e5,e6,e7⟩:=eN (hc i);rcases h2.1 i hi with⟨a,b,c⟩ | ⟨a,b⟩ | ⟨a,b⟩
  ·refine .inl ⟨by rw[e1];exact a,?_,by rw[e6];exact c⟩
   have hcc:(y.c i).J=(x.c i).J:=by
    rcases hcol i hi with h | h
    ·exact h
    ·have:=h.1;omega
   exact⟨by rw[e2];exact b.1,by rw[e3];exact b.2.1,by rw[e4];exact b.2.2.1,by rw[e5];exact b.2.2.2.1,by rw[hcc];exact b.2.2.2.2.1,by rw[e7];exact b.2.2.2.2.2⟩
  ·have:=b.2.1;rcases hm with h | h <;> omega
  ·refine .inr (.inr ⟨by rw[e1];exact a,by rw[e2];exact b.1,by rw[e3];exact b.2.1,by rw[e4];exact b.2.2.1,by rw[e5,hb];exact b.2.2.2.1,?_,by rw[e6];exact b.2.2.2.2.2.1,by rw[e7];exact b.2.2.2.2.2.2⟩);rcases hcol i hi with h | h
   ·rw[h];exact b.2.2.2.2.1
   ·exact h.2
 ·rw[hl] at hi;obtain⟨e1,_,_,_,e5,e6,_⟩:=eN (hc i);obtain⟨f1,_,_,_,f5,f6,_⟩:=eN (hc k);rw[e1,e5,e6,f1,f5,f6] at hh;exact h2.2 i hi (by rw[<-e1];exact hst) k hk hh
 ·have hi':i<x.B.length:=by rw[<-hr];exact hi
  have e:y.B[i]=x.B[i]:=by simp [hr]
  rw[e];exact eY _ _ _ id (h4.1 i hi')
 ·rw[hl] at hi;have e7:=(eN (hc i)).2.2.2.2.2.2;rw[e7] at hk;have e8:(y.c i).p k=(x.c i).p k:=by simp only [Cl.p,e7]
  rw[e8];have:=(h4.2 i hi).2 k hk;exact⟨eY _ _ _ (men i k) (this.2 (nd i)).1,eY _ _ _ (men i k) (this.2 (nd i)).2⟩
 ·rw[hp] at h;rcases hm with h' | h' <;> omega
theorem b2g:∀(n:Nat) (L:List Nat),L.Nodup->(∀i,i∈L->i<n)->L.length<=n
 | 0,L,_,h=>by
  cases L with
  | nil=>simp
  | cons a L=>have:=h a (List.mem_cons_self ..);omega
 | n+1,L,hn,h=>by
  by_cases hm:n∈L
  ·have h1:=b2g n (L.erase n) (hn.erase n) (λi hi=>by
    have h2:=h i (List.mem_of_mem_erase hi);have h3:i≠n:=λe=>by rw[e] at hi;exact(List.Nodup.not_mem_erase hn) hi
    omega)
   rw[List.length_erase_of_mem hm] at h1;have h5:0<L.length:=List.length_pos_of_mem hm;omega
  ·have h1:=b2g n L hn (λi hi=>by
    have h2:=h i hi;have h3:i≠n:=λe=>hm (by rw[<-e];exact hi)
    omega)
   omega
theorem a5h{i:Nat}(h:eJ x i=true):uD x/\(x.c i).st=1/\(x.c i).J=0:=by
 simp [eJ,mkB,whB] at h;exact⟨h.1,h.2.1,h.2.2⟩
theorem c2x(r5:R5 x)(i:Nat)(hi:i<x.A.length):(i:Int)∈x.D↔(x.c i).J=1:=by
 have:=r5.2.1 i hi;constructor
 ·intro h;rcases Int.decEq (x.c i).J 1 with hn | hy
  ·have h0:=this.2.1 hn;unfold cnt at h0;exact absurd h (List.count_eq_zero.1 h0)
  ·exact hy
 ·intro h;have h0:=this.1 h;unfold cnt at h0;exact List.count_pos_iff.1 (by omega)
theorem Snd.shade{x:Hp}(h:Snd x)(i:Nat)(hi:i<x.A.length):Snd (uW x i):=by
 by_cases hb:eJ x i=true;rotate_left
 ·have:uW x i=x:=by unfold uW;rw[if_neg hb]
  rw[this];exact h
 obtain⟨hm,hst,hco⟩:=a5h hb;obtain⟨s1,s2,s3,s4,s5,s6,s7,s8,s9,s10,s11,s12⟩:=cV x i;have hc:∀q,(uW x i).c q=if q=i then tY (x.c i) else x.c q:=λq=>by rw[a5g x i hi q];simp [hb]
 have hg:(uW x i).D=x.D++[(i:Int)]:=by unfold uW;rw[if_pos hb]
 have ng:¬(i:Int)∈x.D:=λe=>by have:=(c2x h.r5 i hi).1 e;omega
 have hm':uD (uW x i):=by unfold uD;rw[s6];exact hm
 have hcol:∀q,((uW x i).c q).J=if q=i then 1 else (x.c q).J:=λq=>by
  rw[hc q];by_cases e:q=i
  ·rw[if_pos e,if_pos e];rfl
  ·rw[if_neg e,if_neg e]
 have hun:=a3u x i hi
 have hunits:dL (uW x i).A=dL x.A:=by
  have:(uW x i).A=x.A.set i (tY (x.c i)):=by unfold uW;rw[if_pos hb]
  rw[this];refine a3j _ _ _ hi ?_;rw[Hp.c_eq x i hi];rfl
 obtain⟨q2,q3,q4,q8⟩:=b1b hm s6 s7 s8 s3 s2 s1 s4 s5 hun (λq hq=>by
  rw[hcol q];by_cases e:q=i
  ·right;rw[if_pos e,(eN (hun q)).1,e];exact⟨hst,by omega,by omega⟩
  ·left;rw[if_neg e]) hunits h.r2 h.r3 h.r4
 refine⟨?_,q2,q3,q4,?_,?_,?_,q8⟩
 ·have r:=h.r1
  have hnd:((x.D++[(i:Int)]).map Int.toNat).Nodup:=by
   unfold List.Nodup;rw[List.pairwise_map];refine List.Pairwise.imp_of_mem (R:=(·≠·)) (λha hb hne e=>hne ?_) ?_
   ·have g0:∀g,g∈x.D++[(i:Int)]->0<=g:=λg hg=>by
     rcases List.mem_append.1 hg with h' | h'
     ·exact(h.r5.2.2 g h').1
     ·rw[List.mem_singleton] at h';omega
    have:=g0 _ ha;have:=g0 _ hb;omega
   ·rw[List.pairwise_append];exact⟨b2e h.r5,by simp,λa ha b hb e=>by rw[List.mem_singleton] at hb;rw[e,hb] at ha;exact ng ha⟩
  have hlen:=b2g x.A.length _ hnd (λj hj=>by
   obtain⟨g,hg',rfl⟩:=List.mem_map.1 hj;rcases List.mem_append.1 hg' with h' | h'
   ·have:=h.r5.2.2 g h';omega
   ·rw[List.mem_singleton] at h';omega)
  rw[List.length_map] at hlen;exact⟨by rw[s1];exact r.M,by rw[s4];exact r.B,by rw[s5,s1];exact r.A,by rw[hg,s5];exact hlen,by rw[s3];exact r.born,by rw[s11];exact r.Q,by rw[s12];exact r.S,by rw[s9];exact r.per,by rw[s10];exact r.V,by rw[s6];exact r.E,by rw[s7,s5];exact r.I,by rw[s8];exact r.sub⟩
 ·refine⟨λn=>(n hm').elim,λj hj=>?_,λg hg'=>?_⟩
  ·rw[s5] at hj;have r:=h.r5.2.1 j hj
   have ecnt:cnt (uW x i).D j=cnt x.D j+if j=i then 1 else 0:=by
    unfold cnt;rw[hg,List.count_append];by_cases e:j=i
    ·subst e;simp
    ·rw[if_neg e,List.count_singleton];have:¬((i:Int)=(j:Int)):=by omega
     simp [this]
   unfold eV;rw[ecnt,hcol j];by_cases e:j=i
   ·subst e;rw[if_pos rfl,if_pos rfl];have:=r.2.1 (by omega);exact⟨λ_=>by omega,λh'=>by omega,λh'=>by omega⟩
   ·rw[if_neg e,if_neg e];exact⟨λh'=>by have:=r.1 h';omega,λh'=>by have:=r.2.1 h';omega,λh'=>.inl hm'⟩
  ·rw[hg] at hg';rw[s5];rcases List.mem_append.1 hg' with h' | h'
   ·exact h.r5.2.2 g h'
   ·rw[List.mem_singleton] at h';omega
 ·have r:=h.r6;unfold R6;rw[s6,s7,s8,s5];refine⟨λhp=>?_,λhp=>⟨(r.2.1 hp).1,λh0=>?_,λ_=>?_⟩,λhp=>?_,r.2.2.2⟩
  ·exact r.1 hp
  ·rw[hg] at h0;simp at h0
  ·have e7:=λq=>(eN (hun q)).2.2.2.2.2.2
   rw[e7];rcases Nat.eq_zero_or_pos x.D.length with h0 | h0
   ·have:=(r.2.1 hp).2.1 h0;omega
   ·have eg:(uW x i).g0=x.g0:=by
     unfold Hp.g0;rw[hg];cases hx:x.D with
     | nil=>rw[hx] at h0;simp at h0
     | cons a l=>rfl
    rw[eg];exact(r.2.1 hp).2.2 (by omega)
  ·rcases hm with h' | h' <;> omega
 ·intro _ j hj;rw[s5] at hj;have r:=h.r7 hm j hj;have e4:=(eN (hun j)).2.2.2.1;have e7:=(eN (hun j)).2.2.2.2.2.2
  have wh:∀y,cZ (uW x i) y->cZ x y:=λy hy=>by
   refine⟨hy.1,?_⟩;have:=hy.2;rw[hcol] at this;by_cases e:y.a.toNat=i
   ·rw[if_pos e] at this;omega
   ·rw[if_neg e] at this;exact this
  refine⟨λhh=>r.1 ⟨?_,?_,?_⟩,λk hk=>?_⟩
  ·unfold cU;rw[<-e4];exact hh.1
  ·have:=hh.2.1;rw[hcol] at this;by_cases e:j=i
   ·rw[if_pos e] at this;omega
   ·rw[if_neg e] at this;exact this
  ·rw[<-s6,<-s7];exact hh.2.2
  ·have e8:((uW x i).c j).p k=(x.c j).p k:=by simp only [Cl.p,e7]
   rw[e8]
   have hk':k<cC x j:=by
    unfold cC at hk ⊢;rw[hcol j,e7,s6,s8] at hk;by_cases e:j=i
    ·subst e;rw[if_pos rfl,if_neg (by omega)] at hk;rw[if_neg (by omega)]
     split at hk
     ·rename_i hh;rw[hg] at hh;rcases Nat.eq_zero_or_pos x.D.length with h0 | h0
      ·have:=(h.r6.2.1 hh.1).2.1 h0;omega
      ·have:x.D.getD 0 0=(j:Int):=by
        cases hx:x.D with
        | nil=>rw[hx] at h0;simp at h0
        | cons a l=>rw[hx] at hh;simpa using hh.2.2
       rw[if_pos ⟨hh.1,by omega,this⟩];exact hk
     ·omega
    ·rw[if_neg e] at hk;by_cases h2:(x.c j).J=2
     ·rw[if_pos h2] at hk ⊢;exact hk
     ·rw[if_neg h2] at hk ⊢
      split at hk
      ·rename_i hh;rw[hg] at hh;rcases Nat.eq_zero_or_pos x.D.length with h0 | h0
       ·have:=(h.r6.2.1 hh.1).2.1 h0;omega
       ·have:x.D.getD 0 0=(j:Int):=by
         cases hx:x.D with
         | nil=>rw[hx] at h0;simp at h0
         | cons a l=>rw[hx] at hh;simpa using hh.2.2
        rw[if_pos ⟨hh.1,by omega,this⟩];exact hk
      ·omega
   have:=r.2 k hk';exact⟨λw=>this.1 (wh _ w),λw=>this.2 (wh _ w)⟩
def dN(x:Hp)(p h:Int):Hp:={ x with E:=p,I:=h,sub:=0 }
def tJ(c:Cl):Bool:=c.U == 1 || c.U == 2
theorem a6c(c:Cl):tJ c=true↔cU c:=by simp [tJ,cU]
def shadeW(x:Hp)(y:Wd):Hp:=if (y.k == 2)=true then uW x y.a.toNat else x
def eZ(x:Hp):Hp:=if x.I=x.A.length then dN x 2 0 else
 let z:=if tJ (x.c x.I.toNat)=true then uW x x.I.toNat else x
 { z with I:=x.I+1 }
def qC(x:Hp):Hp:=x.B.foldl shadeW x
def qV(c:Cl):Cl:={ c with J:=2 }
def dY(x:Hp):Hp:=
 match x.D with
 | g::G=>
  if x.sub<(x.c g.toNat).F.length then
   let p:=(x.c g.toNat).p x.sub.toNat
   { shadeW (shadeW x p.key) p.val with sub:=x.sub+1 }
  else { x with A:=x.A.set g.toNat (qV (x.c g.toNat)),D:=G,sub:=0 }
 | []=>if (qC x).D=[] then dN (qC x) 3 0 else qC x
def eE(x:Hp)(y:Wd):Prop:=y.k=2->y.a.toNat<x.A.length/\(x.c y.a.toNat).st=1
theorem Snd.shdW(h:Snd x)(y:Wd)(hy:eE x y):Snd (shadeW x y):=by
 unfold Go.Proofs.YtddkhnclmeikfaaGreat.shadeW
 split
 ·rename_i e;exact h.shade _ (hy (by simpa using e)).1
 ·exact h
theorem a0a(x:Hp)(y:Wd):(shadeW x y).B=x.B/\(shadeW x y).A.length=x.A.length/\(shadeW x y).E=x.E/\(shadeW x y).I=x.I/\(shadeW x y).sub=x.sub:=by
 unfold shadeW
 split
 ·obtain⟨_,_,_,s4,s5,s6,s7,s8,_⟩:=cV x y.a.toNat;exact⟨s4,s5,s6,s7,s8⟩
 ·exact⟨rfl,rfl,rfl,rfl,rfl⟩
theorem a2r(x:Hp)(y:Wd)(hy:eE x y)(q:Nat):((shadeW x y).c q).un=(x.c q).un:=by
 unfold shadeW
 split
 ·rename_i e;exact a3u x _ (hy (by simpa using e)).1 q
 ·rfl
theorem eE.keep(h:eE x y)(hl:z.A.length=x.A.length)(hu:∀q,(z.c q).un=(x.c q).un):eE z y:=λhk=>⟨by rw[hl];exact(h hk).1,by rw[(eN (hu _)).1];exact(h hk).2⟩
theorem a1x(x:Hp)(i:Nat)(hi:i<x.A.length)(hm:uD x)(hs:(x.c i).st=1):((uW x i).c i).J≠0:=by
 rw[a5g x i hi i];by_cases hb:eJ x i=true
 ·rw[if_pos ⟨hb,rfl⟩];simp [tY]
 ·rw[if_neg (λe=>hb e.1)];intro e;refine hb ?_;have:mkB x=true:=by unfold mkB;rcases hm with h | h <;> simp [h]
  simp [eJ,whB,this,hs,e]
theorem c0x(x:Hp)(i:Nat)(hi:i<x.A.length)(q:Nat)(h:(x.c q).J≠0):((uW x i).c q).J≠0:=by
 rw[a5g x i hi q]
 split
 ·simp [tY]
 ·exact h
theorem b0c(x:Hp)(y:Wd)(hy:eE x y)(hm:uD x):¬cZ (shadeW x y) y:=λh=>by
 have e:(y.k == 2)=true:=by simpa using h.1
 have:=hy h.1;unfold shadeW at h;rw[if_pos e] at h;exact a1x x _ this.1 hm this.2 h.2
theorem b1c(x:Hp)(y:Wd)(hy:eE x y)(q:Nat)(h:(x.c q).J≠0):((shadeW x y).c q).J≠0:=by
 unfold shadeW
 split
 ·rename_i e;exact c0x x _ (hy (by simpa using e)).1 q h
 ·exact h
theorem Snd.good_pair(h:Snd x)(hm:uD x)(i k:Nat)(hi:i<x.A.length)(hk:k<(x.c i).F.length):eE x ((x.c i).p k).key/\eE x ((x.c i).p k).val:=by
 have nd:¬hY x i:=λd=>by have:=d.1;rcases hm with h' | h' <;> omega
 have r:=((h.r4.2 i hi).2 k hk).2 nd;have hmen:cX x i k:=⟨by rcases hm with h' | h' <;> omega,λh5=>by rcases hm with h' | h' <;> omega⟩
 have go:∀y,cL x y (¬cX x i k)->eE x y:=λy hy hk2=>by
  have hf:uE y x.A.length:=hy.1;rcases hy.2 hk2 with⟨_,h2⟩ | ⟨h1,_⟩
  ·exact(h2 hmen).elim
  ·refine⟨?_,h1⟩;rcases hf with f | f | f
   ·omega
   ·omega
   ·omega
 exact⟨go _ r.1,go _ r.2⟩
theorem Snd.good_reg(h:Snd x)(i:Nat)(hi:i<x.B.length):eE x x.B[i]:=λhk=>by
 have r:=h.r4.1 i hi;rcases r.2 hk with⟨_,h2⟩ | ⟨h1,_⟩
 ·exact h2.elim
 ·refine⟨?_,h1⟩;rcases r.1 with f | f | f <;> omega
theorem Snd.I(h:Snd x)(hm:uD x)(p hd sb:Int)(hp:p=1\/p=2)(h1:0<=hd/\hd<=x.A.length)(h2:0<=sb/\sb<=200)(h6:R6 { x with E:=p,I:=hd,sub:=sb })(h7:R7 { x with E:=p,I:=hd,sub:=sb }):Snd { x with E:=p,I:=hd,sub:=sb }:=by
 have r:=h.r1;have np:p≠3/\p≠4/\p≠5/\p≠6:=by omega
 have nx:x.E≠3/\x.E≠4/\x.E≠5/\x.E≠6:=by rcases hm with h' | h' <;> omega
 have eY:∀(w:Wd) (m m':Prop),(m->m')->cL x w m->cL { x with E:=p,I:=hd,sub:=sb } w m':=λw m m' hmm hl=>by
  refine⟨hl.1,λhk=>?_⟩;rcases hl.2 hk with⟨a,b⟩ | ⟨a,_⟩
  ·exact .inl ⟨a,hmm b⟩
  ·exact .inr ⟨a,λd=>np.1 d.1⟩
 have men:∀i k,cX { x with E:=p,I:=hd,sub:=sb } i k:=λi k=>⟨np.2.1,λe=>(np.2.2.1 e).elim⟩
 have men':∀i k,cX x i k:=λi k=>⟨nx.2.1,λe=>(nx.2.2.1 e).elim⟩
 have nd:∀i,¬hY x i:=λi d=>nx.1 d.1
 refine⟨⟨r.M,r.B,r.A,r.D,r.born,r.Q,r.S,r.per,r.V,by show 0<=p/\p<=6;omega,h1,h2⟩,⟨λi hi=>?_,h.r2.2⟩,h.r3,⟨λi hi=>eY _ _ _ id (h.r4.1 i hi),λi hi=>⟨λd=>np.1 d.1.1,λk hk=>⟨λd=>(np.1 d.1).elim,λ_=>?_⟩⟩⟩,⟨λn=>(n hp).elim,λi hi=>?_,h.r5.2.2⟩,h6,h7,λi hi e=>np.2.2.2 e.1⟩
 ·rcases h.r2.1 i hi with a | ⟨_,b⟩ | a
  ·exact .inl a
  ·have:=b.2.1;rcases hm with h' | h' <;> omega
  ·exact .inr (.inr a)
 ·have:=((h.r4.2 i hi).2 k hk).2 (nd i);exact⟨eY _ _ _ (λe=>(e (men' i k)).elim) this.1,eY _ _ _ (λe=>(e (men' i k)).elim) this.2⟩
 ·have c:=h.r5.2.1 i hi;exact⟨c.1,c.2.1,λ_=>.inl hp⟩
theorem Snd.u1(h:Snd x)(hp:x.E=1):Snd (eZ x):=by
 unfold Go.Proofs.YtddkhnclmeikfaaGreat.eZ;have hm:uD x:=.inl hp;have hsub:x.sub=0:=h.r6.2.2.2 (.inl hp)
 split
 ·rename_i he;refine h.I hm 2 0 0 (.inr rfl) ⟨by omega,by omega⟩ ⟨by omega,by omega⟩ ?_ ?_
  ·refine⟨λe=>?_,λ_=>⟨rfl,λ_=>rfl,λ_=>?_⟩,λe=>?_,λe=>?_⟩
   ·have e':(2:Int)=0\/(2:Int)=4:=e;omega
   ·show(0:Int)<=_;omega
   ·have e':(2:Int)=5:=e;omega
   ·have e':(2:Int)=1\/(2:Int)=3\/(2:Int)=6:=e;omega
  ·intro _ i hi;have r:=h.r7 hm i hi;refine⟨λe=>r.1 ⟨e.1,e.2.1,.inr ?_⟩,λk hk=>r.2 k ?_⟩
   ·have:i<x.A.length:=hi;omega
   ·unfold cC at hk ⊢;by_cases h2:(x.c i).J=2
    ·rw[if_pos (show(({ x with E:=2,I:=0,sub:=0 }:Hp).c i).J=2 from h2)] at hk;rw[if_pos h2];exact hk
    ·rw[if_neg (show ¬(({ x with E:=2,I:=0,sub:=0 }:Hp).c i).J=2 from h2)] at hk
     split at hk
     ·simp at hk
     ·omega
 ·rename_i hne;have hh:=h.r1.I;obtain⟨i,hi⟩:∃i:Nat,x.I=(i:Int):=⟨x.I.toNat,by omega⟩;have hin:i<x.A.length:=by omega
  have ei:x.I.toNat=i:=by omega
  rw[ei];obtain⟨z,hz⟩:∃z,z=(if tJ (x.c i)=true then uW x i else x):=⟨_,rfl⟩;have hS:Snd z:=by rw[hz];split;exact h.shade i hin;exact h
  have hz1:z.E=x.E/\z.I=x.I/\z.sub=x.sub/\z.A.length=x.A.length:=by
   rw[hz];split
   ·obtain⟨_,_,_,_,s5,s6,s7,s8,_⟩:=cV x i;exact⟨s6,s7,s8,s5⟩
   ·exact⟨rfl,rfl,rfl,rfl⟩
  have hw:cU (z.c i)->(z.c i).J≠0:=by
   rw[hz]
   split
   ·rename_i e
    have hs:(x.c i).st=1:=by
     have hsp:=(a6c _).1 e;rcases h.r2.1 i hin with⟨_,b,_⟩ | ⟨_,b⟩ | ⟨a,_⟩
     ·have:=b.2.2.1;rcases hsp with q | q <;> omega
     ·have:=b.1.2.2.1;rcases hsp with q | q <;> omega
     ·exact a
    exact λ_=>a1x x i hin hm hs
   ·rename_i e;exact λq=>(e ((a6c _).2 q)).elim
  suffices hgoal:Snd { z with I:=x.I+1 } by rw[hz] at hgoal;exact hgoal
  have hmz:uD z:=by unfold uD;rw[hz1.1];exact hm
  have e0:({ z with I:=x.I+1 }:Hp)={ z with E:=z.E,I:=x.I+1,sub:=z.sub }:=rfl;rw[e0];have r6:=hS.r6;refine hS.I hmz z.E (x.I+1) z.sub hmz ⟨by omega,by rw[hz1.2.2.2];omega⟩ ⟨by have:=hS.r1.sub;omega,by have:=hS.r1.sub;omega⟩ ?_ ?_
  ·refine⟨λe=>?_,λe=>?_,λe=>?_,λ_=>?_⟩
   ·have e':z.E=0\/z.E=4:=e;rw[hz1.1] at e';omega
   ·have e':z.E=2:=e;rw[hz1.1] at e';omega
   ·have e':z.E=5:=e;rw[hz1.1] at e';omega
   ·show z.sub=0;rw[hz1.2.2.1];exact hsub
  ·intro _ j hj;have r:=hS.r7 hmz j hj;refine⟨λe=>?_,λk hk=>r.2 k hk⟩;have e3:z.E=2\/(j:Int)<x.I+1:=e.2.2;by_cases ej:j=i
   ·subst ej;exact hw e.1 e.2.1
   ·refine r.1 ⟨e.1,e.2.1,?_⟩;rcases e3 with q | q
    ·exact .inl q
    ·right;rw[hz1.2.1];omega
structure Shd(x z:Hp):Prop where
 s:Snd z
 B:z.B=x.B
 len:z.A.length=x.A.length
 E:z.E=x.E
 I:z.I=x.I
 sub:z.sub=x.sub
 un:∀q,(z.c q).un=(x.c q).un
 mono:∀q,(x.c q).J≠0->(z.c q).J≠0
 D:∃L,z.D=x.D++L
theorem Shd.refl(h:Snd x):Shd x x:=⟨h,rfl,rfl,rfl,rfl,rfl,λ_=>rfl,λ_ h=>h,[],by simp⟩
theorem b1d(x:Hp)(y:Wd):∃L,(shadeW x y).D=x.D++L:=by
 unfold shadeW uW
 split
 ·split
  ·exact⟨_,rfl⟩
  ·exact⟨[],by simp⟩
 ·exact⟨[],by simp⟩
theorem Shd.step(h:Shd x z)(y:Wd)(hy:eE x y):Shd x (shadeW z y)/\(uD x->¬cZ (shadeW z y) y):=by
 have hz:eE z y:=hy.keep h.len h.un;obtain⟨a1,a2,a3,a4,a5⟩:=a0a z y;obtain⟨L,hL⟩:=h.D;obtain⟨M,hM⟩:=b1d z y;refine⟨⟨h.s.shdW y hz,a1.trans h.B,a2.trans h.len,a3.trans h.E,a4.trans h.I,a5.trans h.sub,λq=>(a2r z y hz q).trans (h.un q),λq hq=>b1c z y hz q (h.mono q hq),L++M,by rw[hM,hL,List.append_assoc]⟩,λhm=>b0c z y hz (by unfold uD;rw[h.E];exact hm)⟩
theorem b2h{u:Wd}(hy:eE z y)(h:¬cZ z u):¬cZ (shadeW z y) u:=λw=>h ⟨w.1,by
 rcases Int.decEq (z.c u.a.toNat).J 0 with hn | he
 ·exact absurd w.2 (b1c z y hy _ hn)
 ·exact he⟩
theorem Shd.fold{x:Hp}(hm:uD x):∀(ys:List Wd) (z:Hp),(∀y,y∈ys->eE x y)->Shd x z->Shd x (ys.foldl shadeW z)/\(∀y,y∈ys->¬cZ (ys.foldl shadeW z) y)/\∀u,¬cZ z u->¬cZ (ys.foldl shadeW z) u
 | [],z,_,h=>⟨h,λy hy=>(by cases hy),λ_ h=>h⟩
 | y::ys,z,hg,h=>by
  have st:=h.step y (hg y (List.mem_cons_self ..));obtain⟨q1,q2,q3⟩:=Shd.fold hm ys (shadeW z y) (λu hu=>hg u (List.mem_cons_of_mem _ hu)) st.1;have hz:eE z y:=(hg y (List.mem_cons_self ..)).keep h.len h.un;refine⟨q1,λu hu=>?_,λu hu=>q3 u (b2h hz hu)⟩;rcases List.mem_cons.1 hu with e | e
  ·rw[e];exact q3 y (st.2 hm)
  ·exact q2 u e
theorem b2i(h:∀q,(z.c q).un=(x.c q).un)(q:Nat):(z.c q).F=(x.c q).F:=(eN (h q)).2.2.2.2.2.2
theorem b8b(h:∀q,(z.c q).un=(x.c q).un)(q k:Nat):(z.c q).p k=(x.c q).p k:=by simp only [Cl.p,b2i h q]
theorem Snd.u2a(h:Snd x)(hp:x.E=2)(g:Int)(G:List Int)(hg:x.D=g::G)(hs:x.sub<(x.c g.toNat).F.length):Snd { shadeW (shadeW x ((x.c g.toNat).p x.sub.toNat).key) ((x.c g.toNat).p x.sub.toNat).val with sub:=x.sub+1 }:=by
 have hm:uD x:=.inr hp;have hgr:=h.r5.2.2 g (by rw[hg];exact List.mem_cons_self ..);have hs0:=h.r1.sub;have hi:g.toNat<x.A.length:=by omega
 have hk:x.sub.toNat<(x.c g.toNat).F.length:=by omega
 obtain⟨g1,g2⟩:=h.good_pair hm g.toNat x.sub.toNat hi hk;obtain⟨p,hpp⟩:∃p,p=(x.c g.toNat).p x.sub.toNat:=⟨_,rfl⟩;rw[<-hpp] at g1 g2 ⊢;have s1:=(Shd.refl h).step p.key g1;have s2:=s1.1.step p.val g2;have w1:¬cZ (shadeW (shadeW x p.key) p.val) p.key:=b2h (g2.keep s1.1.len s1.1.un) (s1.2 hm);have w2:=s2.2 hm;obtain⟨z,hz⟩:∃z,z=shadeW (shadeW x p.key) p.val:=⟨_,rfl⟩;rw[<-hz] at s2 w1 w2 ⊢;obtain⟨s2,_⟩:=s2;obtain⟨L,hL⟩:=s2.D;have hzg:z.D=g::(G++L):=by rw[hL,hg];rfl
 have hmz:uD z:=by unfold uD;rw[s2.E];exact hm
 have h6:=s2.s.r6;have hp200:=h.ok.p200 g.toNat hi;have e0:({ z with sub:=x.sub+1 }:Hp)={ z with E:=z.E,I:=z.I,sub:=x.sub+1 }:=rfl;rw[e0];refine s2.s.I hmz z.E z.I (x.sub+1) hmz s2.s.r1.I ⟨by omega,by omega⟩ ?_ ?_
 ·refine⟨λe=>?_,λe=>⟨(h6.2.1 e).1,λe2=>?_,λ_=>?_⟩,λe=>?_,λe=>?_⟩
  ·have e':z.E=0\/z.E=4:=e;rw[s2.E] at e';omega
  ·have e':z.D.length=0:=e2;rw[hzg] at e';simp at e'
  ·have:({ z with E:=z.E,I:=z.I,sub:=x.sub+1 }:Hp).g0=g.toNat:=by unfold Hp.g0;show(z.D.getD 0 0).toNat=_;rw[hzg];rfl
   rw[this];show x.sub+1<=((z.c g.toNat).F.length:Int);rw[b2i s2.un];omega
  ·have e':z.E=5:=e;rw[s2.E] at e';omega
  ·have e':z.E=1\/z.E=3\/z.E=6:=e;rw[s2.E] at e';omega
 ·intro _ j hj;have r:=s2.s.r7 hmz j hj;refine⟨λe=>r.1 e,λk hkk=>?_⟩;have same:∀y,cZ ({ z with E:=z.E,I:=z.I,sub:=x.sub+1 }:Hp) y->cZ z y:=λy hy=>hy
  have key:k<cC z j\/(j=g.toNat/\k=x.sub.toNat):=by
   unfold cC at hkk ⊢;have hkk':k<if (z.c j).J=2 then (z.c j).F.length else if z.E=2/\z.D.length≠0/\z.D.getD 0 0=(j:Int) then (x.sub+1).toNat else 0:=hkk
   by_cases c2:(z.c j).J=2
   ·rw[if_pos c2] at hkk' ⊢;exact .inl hkk'
   ·rw[if_neg c2] at hkk' ⊢
    split at hkk'
    ·rename_i hh;rw[if_pos hh];have ej:j=g.toNat:=by have:=hh.2.2;rw[hzg] at this;simp at this;omega
     rw[s2.sub];by_cases ek:k=x.sub.toNat
     ·exact .inr ⟨ej,ek⟩
     ·left;omega
    ·omega
  rcases key with q | ⟨q1,q2⟩
  ·exact⟨λe=>(r.2 k q).1 (same _ e),λe=>(r.2 k q).2 (same _ e)⟩
  ·subst q1 q2
   have e9:(({ z with E:=z.E,I:=z.I,sub:=x.sub+1 }:Hp).c g.toNat).p x.sub.toNat=p:=by
    show(z.c g.toNat).p x.sub.toNat=p;rw[b8b s2.un,<-hpp]
   rw[e9];exact⟨λe=>w1 (same _ e),λe=>w2 (same _ e)⟩
theorem Snd.u2b(h:Snd x)(hp:x.E=2)(g:Int)(G:List Int)(hg:x.D=g::G)(hs:¬x.sub<(x.c g.toNat).F.length):Snd { x with A:=x.A.set g.toNat (qV (x.c g.toNat)),D:=G,sub:=0 }:=by
 have hm:uD x:=.inr hp;have hgm:g∈x.D:=by rw[hg];exact List.mem_cons_self ..
 have hgr:=h.r5.2.2 g hgm;have hi:g.toNat<x.A.length:=by omega
 have eg:((g.toNat:Nat):Int)=g:=by omega
 have hu:=b0b h.r2 h.r5 g hgm
 have hsub:x.sub=((x.c g.toNat).F.length:Int):=by
  have:=(h.r6.2.1 hp).2.2 (by rw[hg];simp);have e:x.g0=g.toNat:=by unfold Hp.g0;rw[hg];rfl
  rw[e] at this;omega
 obtain⟨y,hy⟩:∃y:Hp,y={ x with A:=x.A.set g.toNat (qV (x.c g.toNat)),D:=G,sub:=0 }:=⟨_,rfl⟩
 have hc:∀q,y.c q=if q=g.toNat then qV (x.c g.toNat) else x.c q:=λq=>by
  have:=Hp.c_set x g.toNat (qV (x.c g.toNat)) hi q;rw[hy];exact this
 have hl:y.A.length=x.A.length:=by rw[hy];simp
 have hph:y.E=x.E:=by rw[hy]
 have hhd:y.I=x.I:=by rw[hy]
 have hyg:y.D=G:=by rw[hy]
 have hys:y.sub=0:=by rw[hy]
 have hr1:y.M=x.M/\y.K=x.K/\y.born=x.born/\y.B=x.B/\y.per=x.per/\y.V=x.V/\y.Q=x.Q/\y.S=x.S:=by rw[hy];exact⟨rfl,rfl,rfl,rfl,rfl,rfl,rfl,rfl⟩
 have hun:∀q,(y.c q).un=(x.c q).un:=λq=>by
  rw[hc q];by_cases e:q=g.toNat
  ·rw[if_pos e,e];rfl
  ·rw[if_neg e]
 have hcol:∀q,(y.c q).J=if q=g.toNat then 2 else (x.c q).J:=λq=>by
  rw[hc q];by_cases e:q=g.toNat
  ·rw[if_pos e,if_pos e];rfl
  ·rw[if_neg e,if_neg e]
 have hunits:dL y.A=dL x.A:=by
  have:y.A=x.A.set g.toNat (qV (x.c g.toNat)):=by rw[hy]
  rw[this];exact a3j _ _ _ hi (by rw[Hp.c_eq x _ hi];rfl)
 rw[<-hy];clear hy;obtain⟨z,hz⟩:∃z:Hp,z={ x with sub:=0 }:=⟨_,rfl⟩;have zc:∀q,z.c q=x.c q:=λq=>by rw[hz];rfl
 have h2:R2 z:=by rw[hz];exact h.r2
 have h3:R3 z:=by rw[hz];exact h.r3
 have h4:R4 z:=by
  have men:∀i k,¬cX x i k->¬cX z i k:=λi k e e'=>e ⟨by have:=e'.1;rw[hz] at this;exact this,λh5=>by omega⟩
  have eY:∀(w:Wd) (m m':Prop),(m->m')->cL x w m->cL z w m':=λw m m' hmm hl=>by
   refine⟨by rw[hz];exact hl.1,λhk=>?_⟩;rw[zc];rcases hl.2 hk with⟨a,b⟩ | ⟨a,_⟩
   ·exact .inl ⟨a,hmm b⟩
   ·exact .inr ⟨a,λd=>by have:=d.1;rw[hz] at this;have:x.E=3:=this;omega⟩
  have nd:∀i,¬hY z i:=λi d=>by have:=d.1;rw[hz] at this;have:x.E=3:=this;omega
  refine⟨λi hi'=>?_,λi hi'=>⟨λd=>nd i d.1,λk hk=>⟨λd=>(nd i d).elim,λ_=>?_⟩⟩⟩
  ·have e:z.B=x.B:=by rw[hz]
   have hi2:i<x.B.length:=by rw[<-e];exact hi'
   have e2:z.B[i]=x.B[i]:=by simp [e]
   rw[e2];exact eY _ _ _ id (h.r4.1 i hi2)
  ·rw[zc] at hk ⊢
   have:=((h.r4.2 i (by
    have e:z.A=x.A:=by rw[hz]
    rw[<-e];exact hi')).2 k hk).2 (λd=>by have:=d.1;omega)
   exact⟨eY _ _ _ (men i k) this.1,eY _ _ _ (men i k) this.2⟩
 have hmz:uD z:=by rw[hz];exact hm
 obtain⟨q2,q3,q4,q8⟩:=b1b (x:=z) (y:=y) hmz (by rw[hph,hz]) (by rw[hhd,hz]) (by rw[hys,hz]) (by rw[hr1.2.2.1,hz]) (by rw[hr1.2.1,hz]) (by rw[hr1.1,hz]) (by rw[hr1.2.2.2.1,hz]) (by rw[hl,hz]) (λq=>by rw[zc];exact hun q) (λq hq=>by
  rw[zc,hcol q];by_cases e:q=g.toNat
  ·right;rw[if_pos e,(eN (hun q)).1,e];exact⟨hu.2,by omega,by omega⟩
  ·left;rw[if_neg e]) (by rw[hunits,hz]) h2 h3 h4
 have hmy:uD y:=by unfold uD;rw[hph];exact hm
 have cg:∀j:Nat,cnt x.D j=cnt G j+if j=g.toNat then 1 else 0:=λj=>by
  unfold cnt;rw[hg,List.count_cons];by_cases e:j=g.toNat
  ·subst e;rw[if_pos rfl];simp [eg]
  ·rw[if_neg e];have:¬g=(j:Int):=by omega
   simp [this]
 refine⟨?_,q2,q3,q4,⟨λn=>(n hmy).elim,λj hj=>?_,λk hk=>?_⟩,?_,?_,q8⟩
 ·have r:=h.r1;have r4:=r.D;rw[hg] at r4;simp at r4;exact⟨by rw[hr1.1];exact r.M,by rw[hr1.2.2.2.1];exact r.B,by rw[hl,hr1.1];exact r.A,by rw[hyg,hl];omega,by rw[hr1.2.2.1];exact r.born,by rw[hr1.2.2.2.2.2.2.1];exact r.Q,by rw[hr1.2.2.2.2.2.2.2];exact r.S,by rw[hr1.2.2.2.2.1];exact r.per,by rw[hr1.2.2.2.2.2.1];exact r.V,by rw[hph];exact r.E,by rw[hhd,hl];exact r.I,by rw[hys];omega⟩
 ·rw[hl] at hj;have r:=h.r5.2.1 j hj;have c:=cg j;unfold eV;rw[hcol j,hyg];by_cases e:j=g.toNat
  ·subst e;rw[if_pos rfl] at c ⊢;have:=r.1 hu.1;exact⟨λh'=>by omega,λ_=>by omega,λ_=>.inl hmy⟩
  ·rw[if_neg e] at c ⊢;exact⟨λh'=>by have:=r.1 h';omega,λh'=>by have:=r.2.1 h';omega,λ_=>.inl hmy⟩
 ·rw[hyg] at hk;rw[hl];exact h.r5.2.2 k (by rw[hg];exact List.mem_cons_of_mem _ hk)
 ·unfold R6;rw[hph,hhd,hys];refine⟨λe=>by omega,λ_=>⟨(h.r6.2.1 hp).1,λ_=>rfl,λ_=>by omega⟩,λe=>by omega,λe=>by omega⟩
 ·intro _ j hj;rw[hl] at hj;have r:=h.r7 hm j hj
  have wh:∀u,cZ y u->cZ x u:=λu hw=>by
   refine⟨hw.1,?_⟩;have:=hw.2;rw[hcol] at this;by_cases e:u.a.toNat=g.toNat
   ·rw[if_pos e] at this;omega
   ·rw[if_neg e] at this;exact this
  refine⟨λe=>r.1 ⟨?_,?_,.inl hp⟩,λk hk=>?_⟩
  ·unfold cU;rw[<-(eN (hun j)).2.2.2.1];exact e.1
  ·have:=e.2.1;rw[hcol] at this;by_cases ej:j=g.toNat
   ·rw[if_pos ej] at this;omega
   ·rw[if_neg ej] at this;exact this
  ·rw[b8b hun]
   have hk':k<cC x j:=by
    unfold cC at hk ⊢;rw[hcol j,b2i hun,hys] at hk;by_cases ej:j=g.toNat
    ·subst ej;rw[if_pos rfl,if_pos rfl] at hk;rw[if_neg (by have:=hu.1;omega),if_pos ⟨hp,by rw[hg];simp,by rw[hg];simp [eg]⟩];omega
    ·rw[if_neg ej] at hk;by_cases c2:(x.c j).J=2
     ·rw[if_pos c2] at hk ⊢;exact hk
     ·rw[if_neg c2] at hk
      split at hk
      ·simp at hk
      ·omega
   have:=r.2 k hk';exact⟨λw=>this.1 (wh _ w),λw=>this.2 (wh _ w)⟩
theorem Snd.look(h:Snd x)(hp:x.E=2):Shd x (qC x)/\∀i (hi:i<x.B.length),¬cZ (qC x) x.B[i]:=by
 have hm:uD x:=.inr hp
 have hg:∀y,y∈x.B->eE x y:=λy hy=>by
  obtain⟨i,hi,e⟩:=List.getElem_of_mem hy;rw[<-e];exact h.good_reg i hi
 obtain⟨q1,q2,_⟩:=Shd.fold hm x.B x hg (Shd.refl h);exact⟨q1,λi hi=>q2 _ (List.getElem_mem hi)⟩
theorem Snd.ended(h:Snd x)(hp:x.E=2)(hg:x.D=[])(hw:∀i (hi:i<x.B.length),¬cZ x x.B[i]):Snd (dN x 3 0):=by
 have hm:uD x:=.inr hp;obtain⟨y,hy⟩:∃y,y=dN x 3 0:=⟨_,rfl⟩;have yc:∀q,y.c q=x.c q:=λq=>by rw[hy];rfl
 have yl:y.A=x.A:=by rw[hy];rfl
 have yp:y.E=3:=by rw[hy];rfl
 have yh:y.I=0:=by rw[hy];rfl
 have ys:y.sub=0:=by rw[hy];rfl
 have yr:y.B=x.B:=by rw[hy];rfl
 have yg:y.D=[]:=by rw[hy];exact hg
 have y1:y.M=x.M/\y.K=x.K/\y.born=x.born/\y.per=x.per/\y.V=x.V/\y.Q=x.Q/\y.S=x.S:=by rw[hy];exact⟨rfl,rfl,rfl,rfl,rfl,rfl,rfl⟩
 rw[<-hy];clear hy
 have nog:∀i,i<x.A.length->(x.c i).J≠1:=λi hi e=>by
  have:=(h.r5.2.1 i hi).1 e;rw[hg] at this;simp [cnt] at this
 have dm:∀i,hY y i↔(x.c i).st=1/\(x.c i).J=0:=λi=>by
  unfold hY;rw[yp,yh,yc];exact⟨λe=>⟨e.2.2.1,e.2.2.2⟩,λe=>⟨rfl,by omega,e.1,e.2⟩⟩
 have eY:∀u,eE x u->uE u x.A.length->¬cZ x u->∀m,cL y u m:=λu hg1 hf hnw m=>by
  refine⟨by rw[yl];exact hf,λhk=>.inr ⟨by rw[yc];exact(hg1 hk).2,λd=>hnw ⟨hk,((dm _).1 d).2⟩⟩⟩
 have r:=h.r1;refine⟨⟨by rw[y1.1];exact r.M,by rw[yr];exact r.B,by rw[yl,y1.1];exact r.A,by rw[yg];simp,by rw[y1.2.2.1];exact r.born,by rw[y1.2.2.2.2.2.1];exact r.Q,by rw[y1.2.2.2.2.2.2];exact r.S,by rw[y1.2.2.2.1];exact r.per,by rw[y1.2.2.2.2.1];exact r.V,by rw[yp];omega,by rw[yh];omega,by rw[ys];omega⟩,⟨λi hi=>?_,λi hi=>?_⟩,⟨by rw[y1.2.1,yl];exact h.r3.1,by rw[y1.2.1,y1.1];exact h.r3.2⟩,⟨λi hi=>?_,λi hi=>⟨λe=>?_,λk hk=>⟨λd=>?_,λd=>?_⟩⟩⟩,⟨λ_=>by rw[yg];rfl,λi hi=>?_,λg hg'=>by rw[yg] at hg';cases hg'⟩,?_,λe=>?_,λi hi e=>by have:=e.1;omega⟩
 ·rw[yl] at hi;unfold cQ;rw[yc];rcases h.r2.1 i hi with a | ⟨_,b⟩ | ⟨a,b⟩
  ·exact .inl a
  ·have:=b.2.1;omega
  ·exact .inr (.inr ⟨a,b.1,b.2.1,b.2.2.1,by rw[y1.2.2.1];exact b.2.2.2.1,b.2.2.2.2⟩)
 ·rw[yl] at hi;rw[yc];intro hst k hk;rw[yc];exact h.r2.2 i hi hst k hk
 ·have hi2:i<x.B.length:=by rw[<-yr];exact hi
  have e2:y.B[i]=x.B[i]:=by simp [yr]
  rw[e2];exact eY _ (h.good_reg i hi2) (h.r4.1 i hi2).1 (hw i hi2) _
 ·rw[yl] at hi;have d:=(dm i).1 e.1;have sp:cU (x.c i):=by have:=e.2;rw[yc] at this;exact this
  exact(h.r7 hm i hi).1 ⟨sp,d.2,.inl hp⟩
 ·rw[yl] at hi;rw[yc] at hk ⊢;have:=((h.r4.2 i hi).2 k hk).2 (λd=>by have:=d.1;omega);rw[yl];exact⟨this.1.1,this.2.1⟩
 ·rw[yl] at hi;rw[yc] at hk ⊢;have nd:¬((x.c i).st=1/\(x.c i).J=0):=λe=>d ((dm i).2 e)
  have h4:=((h.r4.2 i hi).2 k hk).2 (λd=>by have:=d.1;omega);have gp:=h.good_pair hm i k hi hk
  have hc2:(x.c i).J=2:=by
   rcases h.r2.1 i hi with⟨_,b,_⟩ | ⟨_,b⟩ | ⟨a,b⟩
   ·have:=b.2.2.2.2.2;omega
   ·have:=b.2.1;omega
   ·have:=b.2.2.2.2.1;have:=nog i hi;have:(x.c i).J≠0:=λe=>nd ⟨a,e⟩
    omega
  have lk:k<cC x i:=by unfold cC;rw[if_pos hc2];exact hk
  have:=(h.r7 hm i hi).2 k lk;exact⟨eY _ gp.1 h4.1.1 this.1 _,eY _ gp.2 h4.2.1 this.2 _⟩
 ·rw[yl] at hi;unfold eV;rw[yc,yg,yp,yh];refine⟨λe=>(nog i hi e).elim,λ_=>by simp [cnt],λ_=>.inr ⟨rfl,by omega⟩⟩
 ·unfold R6;rw[yp,yh,ys];exact⟨λe=>by omega,λe=>by omega,λe=>by omega,λ_=>rfl⟩
 ·exfalso;rcases e with e | e <;> omega
theorem Snd.u2(h:Snd x)(hp:x.E=2):Snd (dY x):=by
 unfold dY
 split
 ·rename_i g G hg
  split
  ·rename_i hs;exact h.u2a hp g G hg hs
  ·rename_i hs;exact h.u2b hp g G hg hs
 ·have lk:=h.look hp
  split
  ·rename_i hg;refine lk.1.s.ended (by rw[lk.1.E];exact hp) hg (λi hi=>?_);have hi2:i<x.B.length:=by rw[<-lk.1.B];exact hi
   have e2:(qC x).B[i]=x.B[i]:=by simp [lk.1.B]
   rw[e2];exact lk.2 i hi2
  ·exact lk.1.s
def a1i(c:Cl):Cl:={ c with J:=0 }
def dQ(x:Hp):Hp:=if x.I=x.A.length then dN x 4 0 else
 if whB (x.c x.I.toNat)=true then { x with K:=x.K-(1+(x.c x.I.toNat).F.length),A:=x.A.set x.I.toNat Cl0,I:=x.I+1 }
 else { x with A:=x.A.set x.I.toNat (a1i (x.c x.I.toNat)),I:=x.I+1 }
theorem a1z(cs:List Cl)(i:Nat)(c:Cl)(hi:i<cs.length):dL (cs.set i c)+hE cs[i]=dL cs+hE c:=by
 induction cs generalizing i with
 | nil=>simp at hi
 | cons a cs ih=>
  cases i with
  | zero=>simp [dL];omega
  | succ i=>
   have:=ih i (by simpa using hi);simp [dL] at this ⊢;omega
theorem Snd.u3end(h:Snd x)(hp:x.E=3)(he:x.I=x.A.length):Snd (dN x 4 0):=by
 have hgr:x.D.length=0:=h.r5.1 (λe=>by rcases e with e | e <;> omega);have hg:x.D=[]:=List.eq_nil_of_length_eq_zero hgr;obtain⟨y,hy⟩:∃y,y=dN x 4 0:=⟨_,rfl⟩;have yc:∀q,y.c q=x.c q:=λq=>by rw[hy];rfl
 have yl:y.A=x.A:=by rw[hy];rfl
 have yp:y.E=4:=by rw[hy];rfl
 have yh:y.I=0:=by rw[hy];rfl
 have ys:y.sub=0:=by rw[hy];rfl
 have yr:y.B=x.B:=by rw[hy];rfl
 have yg:y.D=[]:=by rw[hy];exact hg
 have y1:y.M=x.M/\y.K=x.K/\y.born=x.born/\y.per=x.per/\y.V=x.V/\y.Q=x.Q/\y.S=x.S:=by rw[hy];exact⟨rfl,rfl,rfl,rfl,rfl,rfl,rfl⟩
 rw[<-hy];clear hy;have nd:∀i,¬hY y i:=λi d=>by have:=d.1;omega
 have ndx:∀i,i<x.A.length->¬hY x i:=λi hi d=>by have:=d.2.1;omega
 have nom:∀i,i<x.A.length->(x.c i).st≠2:=λi hi e=>by
  rcases h.r2.1 i hi with⟨a,_⟩ | ⟨_,b⟩ | ⟨a,_⟩
  ·omega
  ·have:=b.2.1;omega
  ·omega
 have r:=h.r1
 have eY:∀u m m',cL x u m->cL y u m':=λu m m' hl=>by
  refine⟨by rw[yl];exact hl.1,λhk=>.inr ⟨?_,nd _⟩⟩;rw[yc];have hlt:u.a.toNat<x.A.length:=by rcases hl.1 with f | f | f <;> omega
  rcases hl.2 hk with⟨a,_⟩ | ⟨a,_⟩
  ·exact(nom _ hlt a).elim
  ·exact a
 refine⟨⟨by rw[y1.1];exact r.M,by rw[yr];exact r.B,by rw[yl,y1.1];exact r.A,by rw[yg];simp,by rw[y1.2.2.1];exact r.born,by rw[y1.2.2.2.2.2.1];exact r.Q,by rw[y1.2.2.2.2.2.2];exact r.S,by rw[y1.2.2.2.1];exact r.per,by rw[y1.2.2.2.2.1];exact r.V,by rw[yp];omega,by rw[yh];omega,by rw[ys];omega⟩,⟨λi hi=>?_,λi hi=>?_⟩,⟨by rw[y1.2.1,yl];exact h.r3.1,by rw[y1.2.1,y1.1];exact h.r3.2⟩,⟨λi hi=>?_,λi hi=>⟨λe=>nd i e.1,λk hk=>⟨λd=>(nd i d).elim,λd=>?_⟩⟩⟩,⟨λ_=>by rw[yg];rfl,λi hi=>?_,λg hg'=>by rw[yg] at hg';cases hg'⟩,?_,λe=>?_,λi hi e=>by have:=e.1;omega⟩
 ·rw[yl] at hi;unfold cQ;rw[yc];rcases h.r2.1 i hi with a | ⟨_,b⟩ | ⟨a,b⟩
  ·exact .inl a
  ·have:=b.2.1;omega
  ·exact .inr (.inr ⟨a,b.1,b.2.1,b.2.2.1,by rw[y1.2.2.1];exact b.2.2.2.1,b.2.2.2.2⟩)
 ·rw[yl] at hi;rw[yc];intro hst k hk;rw[yc];exact h.r2.2 i hi hst k hk
 ·have hi2:i<x.B.length:=by rw[<-yr];exact hi
  have e2:y.B[i]=x.B[i]:=by simp [yr]
  rw[e2];exact eY _ _ _ (h.r4.1 i hi2)
 ·rw[yl] at hi;rw[yc] at hk ⊢;have h4:=((h.r4.2 i hi).2 k hk).2 (ndx i hi);exact⟨eY _ _ _ h4.1,eY _ _ _ h4.2⟩
 ·rw[yl] at hi;have c:=h.r5.2.1 i hi
  have c2:(x.c i).J≠2:=λe=>by
   rcases c.2.2 e with m | m
   ·rcases m with m | m <;> omega
   ·have:=m.2;omega
  unfold eV;rw[yc,yg];refine⟨λe=>?_,λ_=>by simp [cnt],λe=>(c2 e).elim⟩;have:=c.1 e;rw[hg] at this;simp [cnt] at this
 ·unfold R6;rw[yp,yh,ys];exact⟨λ_=>⟨rfl,rfl⟩,λe=>by omega,λe=>by omega,λe=>by omega⟩
 ·exfalso;rcases e with e | e <;> omega
theorem b1t(c:Cl):whB c=true↔c.st=1/\c.J=0:=by simp [whB]
theorem Snd.nogray(h:Snd x)(hm:¬uD x):x.D=[]:=List.eq_nil_of_length_eq_zero (h.r5.1 hm)
theorem Snd.nomoved(h:Snd x)(hp:x.E<4)(i:Nat)(hi:i<x.A.length):(x.c i).st≠2:=λe=>by
 rcases h.r2.1 i hi with⟨a,_⟩ | ⟨_,b⟩ | ⟨a,_⟩
 ·omega
 ·have:=b.2.1;omega
 ·omega
theorem Snd.u3cell(h:Snd x)(hp:x.E=3)(i:Nat)(hi:x.I=(i:Int))(hin:i<x.A.length)(c':Cl)(u':Int)(hc:(c'=Cl0/\whB (x.c i)=true/\u'=x.K-(1+(x.c i).F.length))\/(c'=a1i (x.c i)/\¬whB (x.c i)=true/\u'=x.K)):
  Snd { x with K:=u',A:=x.A.set i c',I:=x.I+1 }:=by
 have hg:=h.nogray (λe=>by rcases e with e | e <;> omega);obtain⟨y,hy⟩:∃y:Hp,y={ x with K:=u',A:=x.A.set i c',I:=x.I+1 }:=⟨_,rfl⟩;have yc:∀q,y.c q=if q=i then c' else x.c q:=λq=>by rw[hy];exact Hp.c_set x i c' hin q
 have yl:y.A.length=x.A.length:=by rw[hy];simp
 have ycs:y.A=x.A.set i c':=by rw[hy]
 have yp:y.E=3:=by rw[hy];exact hp
 have yh:y.I=x.I+1:=by rw[hy]
 have ys:y.sub=x.sub:=by rw[hy]
 have yr:y.B=x.B:=by rw[hy]
 have yg:y.D=[]:=by rw[hy];exact hg
 have yu:y.K=u':=by rw[hy]
 have y1:y.M=x.M/\y.born=x.born/\y.per=x.per/\y.V=x.V/\y.Q=x.Q/\y.S=x.S:=by rw[hy];exact⟨rfl,rfl,rfl,rfl,rfl,rfl⟩
 rw[<-hy];clear hy;have stp:∀q,q≠i->y.c q=x.c q:=λq e=>by rw[yc,if_neg e]
 have sti:y.c i=c':=by rw[yc,if_pos rfl]
 have ci:c'.J=0:=by rcases hc with⟨e,_⟩ | ⟨e,_⟩ <;> rw[e] <;> rfl
 have dmx:hY x i↔whB (x.c i)=true:=by
  rw[b1t];unfold hY;exact⟨λe=>e.2.2,λe=>⟨hp,by omega,e⟩⟩
 have dm:∀q,hY y q->hY x q/\q≠i:=λq d=>by
  obtain⟨_,d2,d3,d4⟩:=d;have hq:q≠i:=λe=>by rw[yh] at d2;omega
  rw[stp q hq] at d3 d4;exact⟨⟨hp,by rw[yh] at d2;omega,d3,d4⟩,hq⟩
 have eY:∀u m,cL x u m->cL y u m:=λu m hl=>by
  refine⟨by rw[yl];exact hl.1,λhk=>?_⟩;have hlt:u.a.toNat<x.A.length:=by rcases hl.1 with f | f | f <;> omega
  rcases hl.2 hk with⟨a,_⟩ | ⟨a,b⟩
  ·exact(h.nomoved (by omega) _ hlt a).elim
  ·refine .inr ⟨?_,λd=>b (dm _ d).1⟩;by_cases e:u.a.toNat=i
   ·rw[e] at a b ⊢;rcases hc with⟨_,w,_⟩ | ⟨e2,_,_⟩
    ·exact(b (dmx.2 w)).elim
    ·rw[sti,e2];exact a
   ·rw[stp _ e];exact a
 have r:=h.r1;refine⟨⟨by rw[y1.1];exact r.M,by rw[yr];exact r.B,by rw[yl,y1.1];exact r.A,by rw[yg];simp,by rw[y1.2.1];exact r.born,by rw[y1.2.2.2.2.1];exact r.Q,by rw[y1.2.2.2.2.2];exact r.S,by rw[y1.2.2.1];exact r.per,by rw[y1.2.2.2.1];exact r.V,by rw[yp];omega,by rw[yh,yl];omega,by rw[ys];exact r.sub⟩,⟨λq hq=>?_,λq hq hst k hk hh=>?_⟩,?_,⟨λq hq=>?_,λq hq=>⟨λe=>?_,λk hk=>⟨λd=>?_,λd=>?_⟩⟩⟩,⟨λ_=>by rw[yg];rfl,λq hq=>?_,λg hg'=>by rw[yg] at hg';cases hg'⟩,?_,λe=>?_,λq hq e=>by have:=e.1;omega⟩
 ·rw[yl] at hq;unfold cQ;by_cases e:q=i
  ·subst e;rw[sti];rcases hc with⟨e2,_⟩ | ⟨e2,_⟩
   ·rw[e2];exact .inl ⟨rfl,⟨rfl,rfl,rfl,rfl,rfl,rfl⟩,rfl⟩
   ·rw[e2];rcases h.r2.1 q hq with⟨a,b,c⟩ | ⟨a,_⟩ | ⟨a,b⟩
    ·exact .inl ⟨a,⟨b.1,b.2.1,b.2.2.1,b.2.2.2.1,rfl,b.2.2.2.2.2⟩,c⟩
    ·exact(h.nomoved (by omega) q hq a).elim
    ·exact .inr (.inr ⟨a,b.1,b.2.1,b.2.2.1,by rw[y1.2.1];exact b.2.2.2.1,⟨show(0:Int)<=0 by omega,show(0:Int)<=2 by omega⟩,b.2.2.2.2.2⟩)
  ·rw[stp q e];rcases h.r2.1 q hq with a | ⟨a,_⟩ | ⟨a,b⟩
   ·exact .inl a
   ·exact(h.nomoved (by omega) q hq a).elim
   ·exact .inr (.inr ⟨a,b.1,b.2.1,b.2.2.1,by rw[y1.2.1];exact b.2.2.2.1,b.2.2.2.2⟩)
 ·rw[yl] at hq;rcases hc with⟨e2,_⟩ | ⟨e2,_⟩
  ·have n1:q≠i:=λe=>by rw[e,sti,e2] at hst;exact hst rfl
   have n2:k≠i:=λe=>by
    have h1:=hh.1;rw[e,sti,e2] at h1;exact hst h1.symm
   rw[stp q n1,stp k n2] at hh;rw[stp q n1] at hst;exact h.r2.2 q hq hst k hk hh
  ·have same:∀p,(y.c p).st=(x.c p).st/\(y.c p).born=(x.c p).born/\(y.c p).to=(x.c p).to:=λp=>by
    by_cases e:p=i
    ·rw[e,sti,e2];exact⟨rfl,rfl,rfl⟩
    ·rw[stp p e];exact⟨rfl,rfl,rfl⟩
   rw[(same q).1,(same q).2.1,(same q).2.2,(same k).1,(same k).2.1,(same k).2.2] at hh;rw[(same q).1] at hst;exact h.r2.2 q hq hst k hk hh
 ·have hu:=a1z x.A i c' hin;rw[Hp.c_eq x i hin] at hu;unfold R3;rw[yu,ycs,y1.1];have h3:=h.r3;rcases hc with⟨e2,w,e3⟩ | ⟨e2,w,e3⟩
  ·have h1:hE (x.c i)=1+(x.c i).F.length:=by unfold hE;rw[if_pos ((b1t _).1 w).1]
   have h2:hE c'=0:=by rw[e2];rfl
   rw[h1,h2] at hu;have:=h3.1;have:=h3.2;exact⟨by omega,by omega⟩
  ·have h2:hE c'=hE (x.c i):=by rw[e2];rfl
   rw[h2] at hu;have:=h3.1;have:=h3.2;exact⟨by omega,by omega⟩
 ·have hi2:q<x.B.length:=by rw[<-yr];exact hq
  have e2:y.B[q]=x.B[q]:=by simp [yr]
  rw[e2];exact eY _ _ (h.r4.1 q hi2)
 ·rw[yl] at hq;obtain⟨d1,d2⟩:=dm q e.1;have sp:=e.2;rw[stp q d2] at sp;exact(h.r4.2 q hq).1 ⟨d1,sp⟩
 ·rw[yl] at hq;obtain⟨d1,d2⟩:=dm q d;rw[stp q d2] at hk ⊢;rw[yl];exact((h.r4.2 q hq).2 k hk).1 d1
 ·rw[yl] at hq
  have mm:∀u,cL x u (¬cX x q k)->cL y u (¬cX y q k):=λu hl=>by
   have:=eY u _ hl;refine⟨this.1,λhk2=>?_⟩;rcases this.2 hk2 with⟨a,b⟩ | b
   ·exfalso;have:cX x q k:=⟨by omega,λh5=>by omega⟩;exact b this
   ·exact .inr b
  by_cases e:q=i
  ·subst e;rw[sti] at hk ⊢;rcases hc with⟨e2,_⟩ | ⟨e2,w,_⟩
   ·rw[e2] at hk;simp [Cl0] at hk
   ·rw[e2] at hk ⊢;have:=((h.r4.2 q hq).2 k hk).2 (λd=>w (dmx.1 d));exact⟨mm _ this.1,mm _ this.2⟩
  ·rw[stp q e] at hk ⊢;have nd:¬hY x q:=λdx=>d ⟨yp,by rw[yh];have:=dx.2.1;omega,by rw[stp q e];exact dx.2.2.1,by rw[stp q e];exact dx.2.2.2⟩
   have:=((h.r4.2 q hq).2 k hk).2 nd;exact⟨mm _ this.1,mm _ this.2⟩
 ·rw[yl] at hq;unfold eV;rw[yg,yp,yh];by_cases e:q=i
  ·subst e;rw[sti,ci];exact⟨λh'=>by omega,λ_=>by simp [cnt],λh'=>by omega⟩
  ·rw[stp q e];have c:=h.r5.2.1 q hq;refine⟨λh'=>?_,λ_=>by simp [cnt],λh'=>.inr ⟨rfl,?_⟩⟩
   ·have:=c.1 h';rw[hg] at this;simp [cnt] at this
   ·rcases c.2.2 h' with m | m
    ·rcases m with m | m <;> omega
    ·have:=m.2;omega
 ·unfold R6;rw[yp,ys];exact⟨λe=>by omega,λe=>by omega,λe=>by omega,λ_=>h.r6.2.2.2 (by omega)⟩
 ·exfalso;rcases e with e | e <;> omega
theorem Snd.u3(h:Snd x)(hp:x.E=3):Snd (dQ x):=by
 unfold dQ
 split
 ·rename_i he;exact h.u3end hp he
 ·rename_i hne;have hh:=h.r1.I;have e:x.I=((x.I.toNat:Nat):Int):=by omega
  split
  ·rename_i w;exact h.u3cell hp x.I.toNat e (by omega) Cl0 _ (.inl ⟨rfl,w,rfl⟩)
  ·rename_i w;have:=h.u3cell hp x.I.toNat e (by omega) (a1i (x.c x.I.toNat)) x.K (.inr ⟨rfl,w,rfl⟩);exact this
def mvC(t:Nat):Cl:=⟨2,0,0,0,0,0,t,[]⟩
def mvW(t f:Nat)(r:Wd):Wd:=if r.k=2/\r.a=(f:Int) then ⟨2,0,t⟩ else r
def eU(x:Hp)(t f:Nat):Hp:={ x with A:=(x.A.set t (x.c f)).set f (mvC t),B:=x.B.map (mvW t f) }
def cH(x:Hp):Nat:=x.A.findIdx (λc=>c.st == 0)
def a1k(x:Hp):Nat->Int
 | 0=>-1
 | k+1=>if (x.c k).st=1 then (k:Int) else a1k x k
def unit4(x:Hp):Hp:=if a1k x x.A.length<=(cH x:Int) then dN x 5 0 else eU x (cH x) (a1k x x.A.length).toNat
theorem a0w(x:Hp):∀k,(a1k x k = -1/\∀i,i<k->(x.c i).st≠1)\/∃f:Nat,a1k x k=(f:Int)/\f<k/\(x.c f).st=1/\∀i,f<i->i<k->(x.c i).st≠1
 | 0=>.inl ⟨rfl,λi hi=>by omega⟩
 | k+1=>by
  unfold a1k;by_cases e:(x.c k).st=1
  ·rw[if_pos e];exact .inr ⟨k,rfl,by omega,e,λi h1 h2=>by omega⟩
  ·rw[if_neg e];rcases a0w x k with⟨h1,h2⟩ | ⟨f,h1,h2,h3,h4⟩
   ·exact .inl ⟨h1,λi hi=>by
     by_cases ei:i=k
     ·rw[ei];exact e
     ·exact h2 i (by omega)⟩
   ·exact .inr ⟨f,h1,by omega,h3,λi hi1 hi2=>by
     by_cases ei:i=k
     ·rw[ei];exact e
     ·exact h4 i hi1 (by omega)⟩
theorem a0o(x:Hp):cH x<=x.A.length/\(∀i,i<cH x->(x.c i).st≠0)/\(cH x<x.A.length->(x.c (cH x)).st=0):=by
 refine⟨List.findIdx_le_length,λi hi e=>?_,λhlt=>?_⟩
 ·have hl:i<x.A.length:=Nat.lt_of_lt_of_le hi List.findIdx_le_length;have:=List.not_of_lt_findIdx hi;rw[Hp.c_eq x i hl,e] at this;simp at this
 ·have:=List.findIdx_getElem (w:=hlt);rw[<-Hp.c_eq x _ hlt];have h2:x.A[List.findIdx (λc=>c.st == 0) x.A].st=0:=by simpa using this
  exact h2
theorem Snd.mv(h:Snd x)(hp:x.E=4)(t f:Nat)(htf:t<f)(hf:f<x.A.length)(h0:(x.c t).st=0)(hlow:∀k,k<t->(x.c k).st≠0)(h1:(x.c f).st=1):Snd (eU x t f):=by
 have hg:=h.nogray (λe=>by rcases e with e | e <;> omega);have ht:t<x.A.length:=by omega
 obtain⟨y,hy⟩:∃y:Hp,y=eU x t f:=⟨_,rfl⟩;have yl:y.A.length=x.A.length:=by rw[hy];simp [eU]
 have yc:∀q,y.c q=if q=f then mvC t else if q=t then x.c f else x.c q:=λq=>by
  have e1:=Hp.c_set { x with A:=x.A.set t (x.c f) } f (mvC t) (by simpa using hf) q;have e2:=Hp.c_set x t (x.c f) ht q;rw[hy];have e3:(eU x t f).c q=({ x with A:=(x.A.set t (x.c f)).set f (mvC t) }:Hp).c q:=rfl;rw[e3,e1,e2]
 have ycs:y.A=(x.A.set t (x.c f)).set f (mvC t):=by rw[hy];rfl
 have yp:y.E=4:=by rw[hy];exact hp
 have yh:y.I=x.I:=by rw[hy];rfl
 have ys:y.sub=x.sub:=by rw[hy];rfl
 have yr:y.B=x.B.map (mvW t f):=by rw[hy];rfl
 have yg:y.D=[]:=by rw[hy];exact hg
 have y1:y.M=x.M/\y.K=x.K/\y.born=x.born/\y.per=x.per/\y.V=x.V/\y.Q=x.Q/\y.S=x.S:=by rw[hy];exact⟨rfl,rfl,rfl,rfl,rfl,rfl,rfl⟩
 rw[<-hy];clear hy;have ycf:y.c f=mvC t:=by rw[yc,if_pos rfl]
 have yct:y.c t=x.c f:=by rw[yc,if_neg (by omega),if_pos rfl]
 have yco:∀q,q≠f->q≠t->y.c q=x.c q:=λq a b=>by rw[yc,if_neg a,if_neg b]
 have nd:∀i,¬hY y i:=λi d=>by have:=d.1;omega
 have ndx:∀i,¬hY x i:=λi d=>by have:=d.1;omega
 have nmd:∀i k,¬cX y i k:=λi k e=>e.1 yp
 have nmx:∀i k,¬cX x i k:=λi k e=>e.1 hp
 have tgt:∀i,i<x.A.length->(x.c i).st=2->(x.c i).to.toNat≠f/\(x.c i).to.toNat≠t/\(x.c i).to≠(t:Int):=λi hi e=>by
  rcases h.r2.1 i hi with⟨a,_⟩ | ⟨_,b⟩ | ⟨a,_⟩
  ·omega
  ·obtain⟨_,_,b3,b4,b5,b6⟩:=b;refine⟨λe2=>?_,λe2=>?_,λe2=>?_⟩
   ·exact b6 hp t (by omega) h0
   ·rw[e2] at b5;omega
   ·have:(x.c i).to.toNat=t:=by omega
    rw[this] at b5;omega
  ·omega
 have eY:∀u (m m':Prop),m'->cL x u m->cL y u m':=λu m m' hm' hl=>by
  refine⟨by rw[yl];exact hl.1,λhk=>?_⟩;by_cases e:u.a.toNat=f
  ·exact .inl ⟨by rw[e,ycf];rfl,hm'⟩
  ·have e2:u.a.toNat≠t:=λe2=>by
    rcases hl.2 hk with⟨a,_⟩ | ⟨a,_⟩ <;> rw[e2] at a <;> omega
   rw[yco _ e e2];rcases hl.2 hk with⟨a,_⟩ | ⟨a,_⟩
   ·exact .inl ⟨a,hm'⟩
   ·exact .inr ⟨a,nd _⟩
 have r:=h.r1;refine⟨⟨by rw[y1.1];exact r.M,by rw[yr,List.length_map];exact r.B,by rw[yl,y1.1];exact r.A,by rw[yg];simp,by rw[y1.2.2.1];exact r.born,by rw[y1.2.2.2.2.2.1];exact r.Q,by rw[y1.2.2.2.2.2.2];exact r.S,by rw[y1.2.2.2.1];exact r.per,by rw[y1.2.2.2.2.1];exact r.V,by rw[yp];omega,by rw[yh,yl];exact r.I,by rw[ys];exact r.sub⟩,⟨λq hq=>?_,λq hq hst k hk hh=>?_⟩,?_,⟨λq hq=>?_,λq hq=>⟨λe=>nd q e.1,λk hk=>⟨λd=>(nd q d).elim,λ_=>?_⟩⟩⟩,⟨λ_=>by rw[yg];rfl,λq hq=>?_,λg hg'=>by rw[yg] at hg';cases hg'⟩,?_,λe=>?_,λq hq e=>by have:=e.1;omega⟩
 ·rw[yl] at hq;unfold cQ;by_cases e:q=f
  ·subst e;rw[ycf];refine .inr (.inl ⟨rfl,⟨rfl,rfl,rfl,rfl,rfl,rfl⟩,by rw[yp];omega,show(0:Int)<=(t:Int) by omega,show(t:Int)<(q:Int) by omega,?_,λ_ k hk=>?_⟩)
   ·show(y.c (t:Int).toNat).st=1;have:((t:Int)).toNat=t:=by omega
    rw[this,yct];exact h1
   ·have hk':(k:Int)<(t:Int):=hk;rw[yco k (by omega) (by omega)];exact hlow k (by omega)
  ·by_cases e2:q=t
   ·subst e2;rw[yct];rcases h.r2.1 f hf with⟨a,_⟩ | ⟨a,_⟩ | ⟨a,b⟩
    ·omega
    ·omega
    ·exact .inr (.inr ⟨a,b.1,b.2.1,b.2.2.1,by rw[y1.2.2.1];exact b.2.2.2.1,b.2.2.2.2⟩)
   ·rw[yco q e e2];rcases h.r2.1 q hq with a | ⟨a,b⟩ | ⟨a,b⟩
    ·exact .inl a
    ·obtain⟨t1,t2,_⟩:=tgt q hq a;refine .inr (.inl ⟨a,b.1,by rw[yp];omega,b.2.2.1,b.2.2.2.1,by rw[yco _ t1 t2];exact b.2.2.2.2.1,λ_ k hk=>?_⟩);by_cases ek:k=f
     ·rw[ek,ycf];simp [mvC]
     ·by_cases ek2:k=t
      ·rw[ek2,yct];omega
      ·rw[yco k ek ek2];exact b.2.2.2.2.2 hp k hk
    ·exact .inr (.inr ⟨a,b.1,b.2.1,b.2.2.1,by rw[y1.2.2.1];exact b.2.2.2.1,b.2.2.2.2⟩)
 ·rw[yl] at hq
  have key:∀p p',p<x.A.length->p'<x.A.length->p≠p'->(x.c p).st≠0->¬((x.c p').st=(x.c p).st/\(x.c p').born=(x.c p).born/\(x.c p').to=(x.c p).to):=λp p' hp1 hp2 hne hs e=>by
   rcases Nat.lt_or_gt_of_ne hne with l | l
   ·exact h.r2.2 p' hp2 (by rw[e.1];exact hs) p l ⟨e.1.symm,e.2.1.symm,e.2.2.symm⟩
   ·exact h.r2.2 p hp1 hs p' l e
  have hkl:k<x.A.length:=by omega
  have other:∀p,p<x.A.length->p≠f->p≠t->¬((x.c p).st=2/\(x.c p).to=(t:Int)):=λp hp1 _ _ e=>(tgt p hp1 e.1).2.2 e.2
  by_cases q1:q=f
  ·subst q1;rw[ycf] at hh hst;by_cases k2:k=t
   ·subst k2;rw[yct] at hh;have:=hh.1;simp [mvC] at this;omega
   ·rw[yco k (by omega) k2] at hh;exact other k hkl (by omega) k2 ⟨hh.1,hh.2.2⟩
  ·by_cases q2:q=t
   ·subst q2;rw[yct] at hh hst;rw[yco k (by omega) (by omega)] at hh;exact key f k hf hkl (by omega) hst hh
   ·rw[yco q q1 q2] at hh hst;by_cases k1:k=f
    ·subst k1;rw[ycf] at hh;exact other q hq q1 q2 ⟨hh.1.symm,hh.2.2.symm⟩
    ·by_cases k2:k=t
     ·subst k2;rw[yct] at hh;exact key q f hq hf q1 hst hh
     ·rw[yco k k1 k2] at hh;exact h.r2.2 q hq hst k hk hh
 ·have hu1:=a1z x.A t (x.c f) ht;have hu2:=a1z (x.A.set t (x.c f)) f (mvC t) (by simpa using hf);rw[Hp.c_eq x t ht] at hu1
  have e1:(x.A.set t (x.c f))[f]'(by simpa using hf)=x.c f:=by
   rw[List.getElem_set_ne (by omega),Hp.c_eq x f hf]
  rw[e1] at hu2;have z1:hE (x.c t)=0:=by unfold hE;rw[if_neg (by omega)]
  have z2:hE (mvC t)=0:=by unfold hE;rw[if_neg (by simp [mvC])]
  unfold R3;rw[y1.2.1,y1.1,ycs];have:=h.r3.1;have:=h.r3.2;exact⟨by omega,by omega⟩
 ·have hq2:q<x.B.length:=by rw[yr,List.length_map] at hq;exact hq
  have e2:y.B[q]=mvW t f x.B[q]:=by simp [yr]
  rw[e2];have hl:=h.r4.1 q hq2;unfold mvW
  split
  ·refine⟨.inr (.inr ⟨rfl,rfl,show(0:Int)<=(t:Int) by omega,show(t:Int)<_ by rw[yl];omega⟩),λ_=>.inr ⟨?_,nd _⟩⟩;show(y.c (t:Int).toNat).st=1;have:((t:Int)).toNat=t:=by omega
   rw[this,yct];exact h1
  ·rename_i hne;refine⟨by rw[yl];exact hl.1,λhk=>?_⟩;have ha:0<=x.B[q].a:=by rcases hl.1 with g | g | g <;> omega
   have e3:x.B[q].a.toNat≠f:=λe=>hne ⟨hk,by omega⟩
   rcases hl.2 hk with⟨_,b⟩ | ⟨a,_⟩
   ·exact b.elim
   ·have e4:x.B[q].a.toNat≠t:=λe=>by rw[e] at a;omega
    exact .inr ⟨by rw[yco _ e3 e4];exact a,nd _⟩
 ·rw[yl] at hq;by_cases e:q=f
  ·subst e;rw[ycf] at hk;simp [mvC] at hk
  ·by_cases e2:q=t
   ·subst e2;rw[yct] at hk ⊢;have:=((h.r4.2 f hf).2 k hk).2 (ndx f);exact⟨eY _ _ _ (nmd q k) this.1,eY _ _ _ (nmd q k) this.2⟩
   ·rw[yco q e e2] at hk ⊢;have:=((h.r4.2 q hq).2 k hk).2 (ndx q);exact⟨eY _ _ _ (nmd q k) this.1,eY _ _ _ (nmd q k) this.2⟩
 ·rw[yl] at hq
  have cx:∀p,p<x.A.length->(x.c p).J≠1/\(x.c p).J≠2:=λp hp1=>by
   have c:=h.r5.2.1 p hp1;refine⟨λe=>?_,λe=>?_⟩
   ·have:=c.1 e;rw[hg] at this;simp [cnt] at this
   ·rcases c.2.2 e with m | m
    ·rcases m with m | m <;> omega
    ·have:=m.1;omega
  have cy:(y.c q).J≠1/\(y.c q).J≠2:=by
   rw[yc]
   split
   ·exact⟨by simp [mvC],by simp [mvC]⟩
   ·split
    ·exact cx f hf
    ·exact cx q hq
  exact⟨λe=>(cy.1 e).elim,λ_=>by rw[yg];simp [cnt],λe=>(cy.2 e).elim⟩
 ·unfold R6;rw[yp,yh,ys];exact⟨λ_=>h.r6.1 (.inr hp),λe=>by omega,λe=>by omega,λe=>by omega⟩
 ·exfalso;rcases e with e | e <;> omega
end Go.Proofs.YtddkhnclmeikfaaGreat
