import Derived.Test.YtddkhnclmeikfaaGreatRw
namespace Go.Proofs.YtddkhnclmeikfaaGreat
open Go.RowKit
variable{x y:Hp}{k j:Nat}
theorem Snd.cols(h:Snd x)(hp:x.E≠1/\x.E≠2/\x.E≠3)(i:Nat)(hi:i<x.A.length):(x.c i).J≠1/\(x.c i).J≠2:=by
 have hg:=h.nogray (λe=>by rcases e with e | e <;> omega);have c:=h.r5.2.1 i hi;refine⟨λe=>?_,λe=>?_⟩
 ·have:=c.1 e;rw[hg] at this;simp [cnt] at this
 ·rcases c.2.2 e with m | m
  ·rcases m with m | m <;> omega
  ·have:=m.1;omega
theorem Snd.turned(h:Snd x)(hp:x.E≠1/\x.E≠2/\x.E≠3)(p hd sb rn:Int)(hp1:0<=p/\p<=6/\p≠2/\p≠3/\p≠4)(h1:0<=hd/\hd<=x.A.length)(h2:0<=sb/\sb<=200)(h3:0<=rn/\rn<=1000000000)(hmv:p<4->∀i,i<x.A.length->(x.c i).st≠2)
  (hmd:∀i k,i<x.A.length->k<(x.c i).F.length->¬cX x i k->¬cX { x with E:=p,I:=hd,sub:=sb,Q:=rn } i k) (h6:R6 { x with E:=p,I:=hd,sub:=sb,Q:=rn }) (h7:p=1->hd=0) (h8:R8 { x with E:=p,I:=hd,sub:=sb,Q:=rn }):Snd { x with E:=p,I:=hd,sub:=sb,Q:=rn }:=by
 have hg:=h.nogray (λe=>by rcases e with e | e <;> omega);have r:=h.r1
 have eY:∀(w:Wd) (m m':Prop),(m->m')->cL x w m->cL { x with E:=p,I:=hd,sub:=sb,Q:=rn } w m':=λw m m' hmm hl=>by
  refine⟨hl.1,λhk=>?_⟩;rcases hl.2 hk with⟨a,b⟩ | ⟨a,_⟩
  ·exact .inl ⟨a,hmm b⟩
  ·exact .inr ⟨a,λd=>hp1.2.2.2.1 d.1⟩
 refine⟨⟨r.M,r.B,r.A,r.D,r.born,h3,r.S,r.per,r.V,⟨hp1.1,hp1.2.1⟩,h1,h2⟩,⟨λi hi=>?_,h.r2.2⟩,h.r3,⟨λi hi=>eY _ _ _ id (h.r4.1 i hi),λi hi=>⟨λd=>hp1.2.2.2.1 d.1.1,λk hk=>⟨λd=>(hp1.2.2.2.1 d.1).elim,λ_=>?_⟩⟩⟩,⟨λ_=>by show x.D.length=0;rw[hg];rfl,λi hi=>?_,h.r5.2.2⟩,h6,λhm i hi=>?_,h8⟩
 ·rcases h.r2.1 i hi with a | ⟨a,b⟩ | a
  ·exact .inl a
  ·refine .inr (.inl ⟨a,b.1,?_,b.2.2.1,b.2.2.2.1,b.2.2.2.2.1,λe=>(hp1.2.2.2.2 e).elim⟩);show 4<=p;by_cases l:p<4
   ·exact(hmv l i hi a).elim
   ·omega
  ·exact .inr (.inr a)
 ·have:=((h.r4.2 i hi).2 k hk).2 (λd=>hp.2.2 d.1);exact⟨eY _ _ _ (hmd i k hi hk) this.1,eY _ _ _ (hmd i k hi hk) this.2⟩
 ·have c:=h.cols hp i hi;exact⟨λe=>(c.1 e).elim,λe=>(h.r5.2.1 i hi).2.1 e,λe=>(c.2 e).elim⟩
 ·have hm1:p=1:=by
   have e:p=1\/p=2:=hm;omega
  have c:=h.cols hp i hi;refine⟨λe=>?_,λk hk=>?_⟩
  ·have e3:p=2\/(i:Int)<hd:=e.2.2;have:=h7 hm1;omega
  ·have hk2:k<(if (x.c i).J=2 then (x.c i).F.length else if p=2/\x.D.length≠0/\x.D.getD 0 0=(i:Int) then sb.toNat else 0):=hk;rw[if_neg c.2,if_neg (λe=>hp1.2.2.1 e.1)] at hk2;omega
theorem Snd.begin(h:Snd x)(hp:x.E=0):Snd (dN x 1 0):=by
 refine h.turned ⟨by omega,by omega,by omega⟩ 1 0 0 x.Q ⟨by omega,by omega,by omega,by omega,by omega⟩ ⟨by omega,by omega⟩ ⟨by omega,by omega⟩ h.r1.Q (λ_ i hi=>h.nomoved (by omega) i hi) (λi k _ _ e=>(e ⟨by omega,λh5=>by omega⟩).elim) ⟨λe=>?_,λe=>?_,λe=>?_,λ_=>rfl⟩ (λ_=>rfl) (λi hi e=>?_)
 ·have e':(1:Int)=0\/(1:Int)=4:=e;omega
 ·have e':(1:Int)=2:=e;omega
 ·have e':(1:Int)=5:=e;omega
 ·have e':(1:Int)=6:=e.1;omega
theorem Snd.u4(h:Snd x)(hp:x.E=4):Snd (unit4 x):=by
 have nm:∀i k,¬cX x i k:=λi k e=>e.1 hp
 unfold unit4;obtain⟨f1,f2,f3⟩:=a0o x
 split
 ·refine h.turned ⟨by omega,by omega,by omega⟩ 5 0 0 x.Q ⟨by omega,by omega,by omega,by omega,by omega⟩ ⟨by omega,by omega⟩ ⟨by omega,by omega⟩ h.r1.Q (λe=>by omega) (λi k _ _ _ e=>?_) ⟨λe=>?_,λe=>?_,λ_=>⟨λ_=>rfl,λ_=>?_⟩,λe=>?_⟩ (λe=>by omega) (λi hi e=>?_)
  ·have e':(i:Int)<0\/((i:Int)=0/\(k:Int)<0):=e.2 rfl;omega
  ·have e':(5:Int)=0\/(5:Int)=4:=e;omega
  ·have e':(5:Int)=2:=e;omega
  ·show(0:Int)<=_;omega
  ·have e':(5:Int)=1\/(5:Int)=3\/(5:Int)=6:=e;omega
  ·have e':(5:Int)=6:=e.1;omega
 ·rename_i hlt;rcases a0w x x.A.length with⟨e,_⟩ | ⟨f,e,hf,hs,_⟩
  ·omega
  ·have e2:(a1k x x.A.length).toNat=f:=by omega
   rw[e2];rw[e] at hlt;exact h.mv hp (cH x) f (by omega) hf (f3 (by omega)) f2 hs
def qD(x:Hp)(c:Cl)(k:Nat):Cl:={ c with F:=c.F.set k ⟨qX x (c.p k).key,qX x (c.p k).val⟩ }
def eH(x:Hp):Hp:=if x.I=x.A.length then dN x 6 x.A.length else
 if x.sub<(x.c x.I.toNat).F.length then { x with A:=x.A.set x.I.toNat (qD x (x.c x.I.toNat) x.sub.toNat),sub:=x.sub+1 }
 else { x with I:=x.I+1,sub:=0 }
theorem Snd.mend(h:Snd x)(hp:x.E=5)(i k:Nat)(hi:x.I=(i:Int))(hin:i<x.A.length)(hk:x.sub=(k:Int))(hkl:k<(x.c i).F.length):Snd { x with A:=x.A.set i (qD x (x.c i) k),sub:=x.sub+1 }:=by
 have hg:=h.nogray (λe=>by rcases e with e | e <;> omega)
 have hst:(x.c i).st=1:=by
  rcases h.r2.1 i hin with⟨_,b,_⟩ | ⟨_,b⟩ | ⟨a,_⟩
  ·have:=b.2.2.2.2.2;omega
  ·have:=b.1.2.2.2.2.2;omega
  ·exact a
 obtain⟨y,hy⟩:∃y:Hp,y={ x with A:=x.A.set i (qD x (x.c i) k),sub:=x.sub+1 }:=⟨_,rfl⟩;have yc:∀q,y.c q=if q=i then qD x (x.c i) k else x.c q:=λq=>by rw[hy];exact Hp.c_set x i _ hin q
 have yl:y.A.length=x.A.length:=by rw[hy];simp
 have ycs:y.A=x.A.set i (qD x (x.c i) k):=by rw[hy]
 have yp:y.E=5:=by rw[hy];exact hp
 have yh:y.I=x.I:=by rw[hy]
 have ys:y.sub=x.sub+1:=by rw[hy]
 have yr:y.B=x.B:=by rw[hy]
 have yg:y.D=[]:=by rw[hy];exact hg
 have y1:y.M=x.M/\y.K=x.K/\y.born=x.born/\y.per=x.per/\y.V=x.V/\y.Q=x.Q/\y.S=x.S:=by rw[hy];exact⟨rfl,rfl,rfl,rfl,rfl,rfl,rfl⟩
 rw[<-hy];clear hy;have yci:y.c i=qD x (x.c i) k:=by rw[yc,if_pos rfl]
 have yco:∀q,q≠i->y.c q=x.c q:=λq e=>by rw[yc,if_neg e]
 have parts:∀q,(y.c q).st=(x.c q).st/\(y.c q).kind=(x.c q).kind/\(y.c q).T=(x.c q).T/\(y.c q).U=(x.c q).U/\(y.c q).born=(x.c q).born/\(y.c q).J=(x.c q).J/\(y.c q).to=(x.c q).to/\(y.c q).F.length=(x.c q).F.length:=λq=>by
  by_cases e:q=i
  ·rw[e,yci];exact⟨rfl,rfl,rfl,rfl,rfl,rfl,rfl,by simp [qD]⟩
  ·rw[yco q e];exact⟨rfl,rfl,rfl,rfl,rfl,rfl,rfl,rfl⟩
 have nd:∀q,¬hY y q:=λq d=>by have:=d.1;omega
 have ndx:∀q,¬hY x q:=λq d=>by have:=d.1;omega
 have eY:∀(u:Wd) (m m':Prop),(m->m')->cL x u m->cL y u m':=λu m m' hmm hl=>by
  refine⟨by rw[yl];exact hl.1,λhk=>?_⟩;rw[(parts _).1];rcases hl.2 hk with⟨a,b⟩ | ⟨a,_⟩
  ·exact .inl ⟨a,hmm b⟩
  ·exact .inr ⟨a,nd _⟩
 have res:∀(u:Wd) (m m':Prop),cL x u m->cL y (qX x u) m':=λu m m' hl=>by
  unfold qX
  split
  ·rename_i e;have hlt:u.a.toNat<x.A.length:=by rcases hl.1 with f | f | f <;> omega
   rcases h.r2.1 _ hlt with⟨a,_⟩ | ⟨_,b⟩ | ⟨a,_⟩
   ·have:=e.2;omega
   ·obtain⟨_,_,b3,b4,b5,_⟩:=b;refine⟨.inr (.inr ⟨rfl,rfl,b3,show(x.c u.a.toNat).to<_ by rw[yl];omega⟩),λ_=>.inr ⟨?_,nd _⟩⟩;rw[(parts _).1];exact b5
   ·have:=e.2;omega
  ·rename_i e;refine⟨by rw[yl];exact hl.1,λhk=>?_⟩;rw[(parts _).1];rcases hl.2 hk with⟨a,_⟩ | ⟨a,_⟩
   ·exact(e ⟨hk,a⟩).elim
   ·exact .inr ⟨a,nd _⟩
 have hp200:=h.ok.p200 i hin;have r:=h.r1;refine⟨⟨by rw[y1.1];exact r.M,by rw[yr];exact r.B,by rw[yl,y1.1];exact r.A,by rw[yg];simp,by rw[y1.2.2.1];exact r.born,by rw[y1.2.2.2.2.2.1];exact r.Q,by rw[y1.2.2.2.2.2.2];exact r.S,by rw[y1.2.2.2.1];exact r.per,by rw[y1.2.2.2.2.1];exact r.V,by rw[yp];omega,by rw[yh,yl];exact r.I,by rw[ys];omega⟩,⟨λq hq=>?_,λq hq hs j hj hh=>?_⟩,?_,⟨λq hq=>?_,λq hq=>⟨λe=>nd q e.1,λj hj=>⟨λd=>(nd q d).elim,λ_=>?_⟩⟩⟩,⟨λ_=>by rw[yg];rfl,λq hq=>?_,λg hg'=>by rw[yg] at hg';cases hg'⟩,?_,λe=>?_,λq hq e=>by have:=e.1;omega⟩
 ·rw[yl] at hq;obtain⟨e1,e2,e3,e4,e5,e6,e7,e8⟩:=parts q;unfold cQ a2k eX yW;rw[e1,e2,e3,e4,e5,e6,e7,e8,y1.2.2.1,yp,(parts _).1];rcases h.r2.1 q hq with a | ⟨a,b⟩ | a
  ·exact .inl a
  ·exact .inr (.inl ⟨a,b.1,by omega,b.2.2.1,b.2.2.2.1,b.2.2.2.2.1,λe=>by omega⟩)
  ·exact .inr (.inr a)
 ·rw[yl] at hq;obtain⟨e1,_,_,_,e5,_,e7,_⟩:=parts q;obtain⟨f1,_,_,_,f5,_,f7,_⟩:=parts j;rw[e1,e5,e7,f1,f5,f7] at hh;rw[e1] at hs;exact h.r2.2 q hq hs j hj hh
 ·unfold R3;rw[y1.2.1,y1.1,ycs];have:dL (x.A.set i (qD x (x.c i) k))=dL x.A:=a3j _ _ _ hin (by rw[Hp.c_eq x i hin];unfold hE qD;simp);rw[this];exact h.r3
 ·have hq2:q<x.B.length:=by rw[<-yr];exact hq
  have e2:y.B[q]=x.B[q]:=by simp [yr]
  rw[e2];exact eY _ _ _ id (h.r4.1 q hq2)
 ·rw[yl] at hq;rw[(parts q).2.2.2.2.2.2.2] at hj;have h4:=((h.r4.2 q hq).2 j hj).2 (ndx q);by_cases e:q=i
  ·subst e;by_cases ej:j=k
   ·subst ej
    have ep:(y.c q).p j=⟨qX x ((x.c q).p j).key,qX x ((x.c q).p j).val⟩:=by
     rw[yci];simp [Cl.p,qD,hkl]
    rw[ep];exact⟨res _ _ _ h4.1,res _ _ _ h4.2⟩
   ·have ep:(y.c q).p j=(x.c q).p j:=by
     rw[yci];simp only [Cl.p,qD,List.getD_eq_getElem?_getD];rw[List.getElem?_set_ne (λe=>ej e.symm)]
    rw[ep]
    have men:¬cX x q j->¬cX y q j:=λe e'=>e ⟨by omega,λ_=>by
     have:=e'.2 yp;rw[yh,ys] at this;omega⟩
    exact⟨eY _ _ _ men h4.1,eY _ _ _ men h4.2⟩
  ·rw[yco q e]
   have men:¬cX x q j->¬cX y q j:=λe2 e'=>e2 ⟨by omega,λ_=>by
    have:=e'.2 yp;rw[yh,ys] at this;omega⟩
   exact⟨eY _ _ _ men h4.1,eY _ _ _ men h4.2⟩
 ·rw[yl] at hq;have c:=h.cols ⟨by omega,by omega,by omega⟩ q hq;unfold eV;rw[(parts q).2.2.2.2.2.1,yg];exact⟨λe=>(c.1 e).elim,λ_=>by simp [cnt],λe=>(c.2 e).elim⟩
 ·unfold R6;rw[yp,yh,ys,yl];have e:x.I.toNat=i:=by omega
  rw[e,(parts i).1,(parts i).2.2.2.2.2.2.2];exact⟨λe=>by omega,λe=>by omega,λ_=>⟨λe=>by omega,λ_=>by omega⟩,λe=>by omega⟩
 ·exfalso;rcases e with e | e <;> omega
theorem Snd.u5(h:Snd x)(hp:x.E=5):Snd (eH x):=by
 have hh:=h.r1.I;have hs:=h.r1.sub;have h6:=h.r6.2.2.1 hp;unfold eH
 split
 ·rename_i he;refine h.turned ⟨by omega,by omega,by omega⟩ 6 x.A.length 0 x.Q ⟨by omega,by omega,by omega,by omega,by omega⟩ ⟨by omega,by omega⟩ ⟨by omega,by omega⟩ h.r1.Q (λe=>by omega) (λi k hi _ e=>(e ⟨by omega,λ_=>.inl (by omega)⟩).elim) ⟨λe=>?_,λe=>?_,λe=>?_,λ_=>rfl⟩ (λe=>by omega) (λi hi e=>?_)
  ·have e':(6:Int)=0\/(6:Int)=4:=e;omega
  ·have e':(6:Int)=2:=e;omega
  ·have e':(6:Int)=5:=e;omega
  ·have e':(x.A.length:Int)<=i:=e.2.1;have hi':i<x.A.length:=hi;omega
 ·rename_i hne
  split
  ·rename_i hlt;exact h.mend hp x.I.toNat x.sub.toNat (by omega) (by omega) (by omega) (by omega)
  ·rename_i hlt;obtain⟨i,hi⟩:∃i:Nat,x.I=(i:Int):=⟨x.I.toNat,by omega⟩;have hin:i<x.A.length:=by omega
   have ei:x.I.toNat=i:=by omega
   rw[ei] at h6 hlt
   have key:∀k,k<(x.c i).F.length->(k:Int)<x.sub:=λk hk=>by
    have hst:(x.c i).st=1:=by
     rcases h.r2.1 i hin with⟨_,b,_⟩ | ⟨_,b⟩ | ⟨a,_⟩
     ·have:=b.2.2.2.2.2;omega
     ·have:=b.1.2.2.2.2.2;omega
     ·exact a
    omega
   have e0:({ x with I:=x.I+1,sub:=0 }:Hp)={ x with E:=x.E,I:=x.I+1,sub:=0,Q:=x.Q }:=rfl;rw[e0,hp];refine h.turned ⟨by omega,by omega,by omega⟩ 5 (x.I+1) 0 x.Q ⟨by omega,by omega,by omega,by omega,by omega⟩ ⟨by omega,by omega⟩ ⟨by omega,by omega⟩ h.r1.Q (λe=>by omega) (λq k hq hk e e'=>e ⟨by omega,λ_=>?_⟩) ⟨λe=>?_,λe=>?_,λ_=>⟨λ_=>rfl,λ_=>?_⟩,λe=>?_⟩ (λe=>by omega) (λq hq e=>?_)
   ·have e2:(q:Int)<x.I+1\/((q:Int)=x.I+1/\(k:Int)<0):=e'.2 rfl;by_cases eq:q=i
    ·subst eq;exact .inr ⟨by omega,key k hk⟩
    ·left;omega
   ·have e':(5:Int)=0\/(5:Int)=4:=e;omega
   ·have e':(5:Int)=2:=e;omega
   ·show(0:Int)<=_;omega
   ·have e':(5:Int)=1\/(5:Int)=3\/(5:Int)=6:=e;omega
   ·have e':(5:Int)=6:=e.1;omega
def dH(x:Hp)(i:Nat):Hp:={ x with A:=if (x.c i).st=2 then x.A.set i Cl0 else x.A,I:=(i:Int) }
def zU(x:Hp)(i:Nat):Hp:=if i+1=x.A.length/\(x.c i).st=0 then { x with A:=x.A.take i } else x
def cN(x:Hp):Hp:=if x.I=0 then { x with E:=0,I:=0,sub:=0,Q:=if x.Q<1000000000 then x.Q+1 else x.Q } else zU (dH x (x.I-1).toNat) (x.I-1).toNat
theorem Snd.noword(h:Snd x)(hp:x.E=6):(∀i (hi:i<x.B.length),eE x x.B[i])/\∀i k,i<x.A.length->k<(x.c i).F.length->eE x ((x.c i).p k).key/\eE x ((x.c i).p k).val:=by
 refine⟨λi hi=>h.good_reg i hi,λi k hi hk=>?_⟩;have r:=((h.r4.2 i hi).2 k hk).2 (λd=>by have:=d.1;omega);have hmen:cX x i k:=⟨by omega,λh5=>by omega⟩
 have go:∀y,cL x y (¬cX x i k)->eE x y:=λy hy hk2=>by
  rcases hy.2 hk2 with⟨_,h2⟩ | ⟨h1,_⟩
  ·exact(h2 hmen).elim
  ·refine⟨?_,h1⟩;rcases hy.1 with f | f | f <;> omega
 exact⟨go _ r.1,go _ r.2⟩
theorem Snd.shut(h:Snd x)(hp:x.E=6)(i:Nat)(hi:x.I=(i:Int)+1):Snd (dH x i):=by
 have hh:=h.r1.I;have hin:i<x.A.length:=by omega
 have hg:=h.nogray (λe=>by rcases e with e | e <;> omega);obtain⟨g1,g2⟩:=h.noword hp;obtain⟨y,hy⟩:∃y:Hp,y=dH x i:=⟨_,rfl⟩
 have yc:∀q,y.c q=if q=i/\(x.c i).st=2 then Cl0 else x.c q:=λq=>by
  rw[hy];by_cases e:(x.c i).st=2
  ·have e3:dH x i={ x with A:=x.A.set i Cl0,I:=(i:Int) }:=by unfold dH;rw[if_pos e]
   rw[e3];have:=Hp.c_set x i Cl0 hin q;have e4:({ x with A:=x.A.set i Cl0,I:=(i:Int) }:Hp).c q=({ x with A:=x.A.set i Cl0 }:Hp).c q:=rfl;rw[e4,this];by_cases eq:q=i
   ·rw[if_pos eq,if_pos ⟨eq,e⟩]
   ·rw[if_neg eq,if_neg (λz=>eq z.1)]
  ·have e3:dH x i={ x with I:=(i:Int) }:=by unfold dH;rw[if_neg e]
   rw[e3,if_neg (λz=>e z.2)];rfl
 have yl:y.A.length=x.A.length:=by rw[hy];unfold dH;split <;> simp
 have yu:dL y.A=dL x.A:=by
  rw[hy];unfold dH
  split
  ·rename_i e;refine a3j _ _ _ hin ?_;rw[Hp.c_eq x i hin];unfold hE;rw[if_neg (by simp [Cl0]),if_neg (by omega)]
  ·rfl
 have yp:y.E=6:=by rw[hy];exact hp
 have yh:y.I=(i:Int):=by rw[hy];rfl
 have ys:y.sub=x.sub:=by rw[hy];rfl
 have yr:y.B=x.B:=by rw[hy];rfl
 have yg:y.D=[]:=by rw[hy];exact hg
 have y1:y.M=x.M/\y.K=x.K/\y.born=x.born/\y.per=x.per/\y.V=x.V/\y.Q=x.Q/\y.S=x.S:=by rw[hy];exact⟨rfl,rfl,rfl,rfl,rfl,rfl,rfl⟩
 rw[<-hy];clear hy
 have used:∀q,(x.c q).st=1->y.c q=x.c q:=λq e=>by
  rw[yc,if_neg (λz=>by rw[z.1] at e;omega)]
 have nd:∀q,¬hY y q:=λq d=>by have:=d.1;omega
 have eY:∀u m m',eE x u->cL x u m->cL y u m':=λu m m' hg1 hl=>by
  refine⟨by rw[yl];exact hl.1,λhk=>.inr ⟨?_,nd _⟩⟩;rw[used _ (hg1 hk).2];exact(hg1 hk).2
 have prs:∀q,0<(y.c q).F.length->y.c q=x.c q:=λq hq=>by
  rw[yc] at hq ⊢
  split
  ·rename_i e;rw[if_pos e] at hq;simp [Cl0] at hq
  ·rfl
 have r:=h.r1;refine⟨⟨by rw[y1.1];exact r.M,by rw[yr];exact r.B,by rw[yl,y1.1];exact r.A,by rw[yg];simp,by rw[y1.2.2.1];exact r.born,by rw[y1.2.2.2.2.2.1];exact r.Q,by rw[y1.2.2.2.2.2.2];exact r.S,by rw[y1.2.2.2.1];exact r.per,by rw[y1.2.2.2.2.1];exact r.V,by rw[yp];omega,by rw[yh,yl];omega,by rw[ys];exact r.sub⟩,⟨λq hq=>?_,λq hq hs j hj hh=>?_⟩,⟨by rw[y1.2.1,yu];exact h.r3.1,by rw[y1.2.1,y1.1];exact h.r3.2⟩,⟨λq hq=>?_,λq hq=>⟨λe=>nd q e.1,λj hj=>⟨λd=>(nd q d).elim,λ_=>?_⟩⟩⟩,⟨λ_=>by rw[yg];rfl,λq hq=>?_,λg hg'=>by rw[yg] at hg';cases hg'⟩,?_,λe=>?_,λq hq e=>?_⟩
 ·rw[yl] at hq;unfold cQ;rw[yc]
  split
  ·exact .inl ⟨rfl,⟨rfl,rfl,rfl,rfl,rfl,rfl⟩,rfl⟩
  ·rcases h.r2.1 q hq with a | ⟨a,b⟩ | ⟨a,b⟩
   ·exact .inl a
   ·exact .inr (.inl ⟨a,b.1,by rw[yp];omega,b.2.2.1,b.2.2.2.1,by rw[used _ b.2.2.2.2.1];exact b.2.2.2.2.1,λe=>by rw[yp] at e;omega⟩)
   ·exact .inr (.inr ⟨a,b.1,b.2.1,b.2.2.1,by rw[y1.2.2.1];exact b.2.2.2.1,b.2.2.2.2⟩)
 ·rw[yl] at hq
  have n1:y.c q=x.c q:=by
   rw[yc] at hs ⊢
   split
   ·rename_i e;rw[if_pos e] at hs;exact(hs rfl).elim
   ·rfl
  have n2:y.c j=x.c j:=by
   have h1:=hh.1;rw[yc j] at h1 ⊢
   split
   ·rename_i e;rw[if_pos e] at h1;exact(hs h1.symm).elim
   ·rfl
  rw[n1,n2] at hh;rw[n1] at hs;exact h.r2.2 q hq hs j hj hh
 ·have hq2:q<x.B.length:=by rw[<-yr];exact hq
  have e2:y.B[q]=x.B[q]:=by simp [yr]
  rw[e2];exact eY _ _ _ (g1 q hq2) (h.r4.1 q hq2)
 ·rw[yl] at hq;have e:=prs q (by omega);rw[e] at hj ⊢;have h4:=((h.r4.2 q hq).2 j hj).2 (λd=>by have:=d.1;omega);exact⟨eY _ _ _ (g2 q j hq hj).1 h4.1,eY _ _ _ (g2 q j hq hj).2 h4.2⟩
 ·rw[yl] at hq;have c:=h.cols ⟨by omega,by omega,by omega⟩ q hq
  have cy:(y.c q).J≠1/\(y.c q).J≠2:=by
   rw[yc];split
   ·exact⟨by simp [Cl0],by simp [Cl0]⟩
   ·exact c
  exact⟨λe=>(cy.1 e).elim,λ_=>by rw[yg];simp [cnt],λe=>(cy.2 e).elim⟩
 ·unfold R6;rw[yp,ys];exact⟨λe=>by omega,λe=>by omega,λe=>by omega,λ_=>h.r6.2.2.2 (by omega)⟩
 ·exfalso;rcases e with e | e <;> omega
 ·rw[yl] at hq;have e2:=e.2.2;have e1:=e.2.1;rw[yh] at e1;rw[yc] at e2
  split at e2
  ·simp [Cl0] at e2
  ·rename_i hn;by_cases eq:q=i
   ·exact hn ⟨eq,by rw[<-eq];exact e2⟩
   ·exact h.r8 q hq ⟨hp,by omega,e2⟩
theorem Snd.drop(h:Snd x)(hp:x.E=6)(i:Nat)(hi:x.I=(i:Int)):Snd (zU x i):=by
 unfold zU
 split
 rotate_left
 ·exact h
 rename_i hd;obtain⟨hlen,hst⟩:=hd;have hg:=h.nogray (λe=>by rcases e with e | e <;> omega);obtain⟨g1,g2⟩:=h.noword hp;obtain⟨y,hy⟩:∃y:Hp,y={ x with A:=x.A.take i }:=⟨_,rfl⟩;have yl:y.A.length=i:=by rw[hy];simp;omega
 have yc:∀q,q<i->y.c q=x.c q:=λq hq=>by
  rw[hy];simp only [Hp.c,List.getD_eq_getElem?_getD];rw[List.getElem?_take_of_lt hq]
 have yu:dL y.A=dL x.A:=by
  have e:=a5f x.A i (by omega);rw[show i+1=x.A.length from hlen,List.take_length,Hp.c_eq x i (by omega)] at e;have:hE (x.c i)=0:=by unfold hE;rw[if_neg (by omega)]
  rw[hy];show dL (x.A.take i)=_;omega
 have yp:y.E=6:=by rw[hy];exact hp
 have yh:y.I=(i:Int):=by rw[hy];exact hi
 have ys:y.sub=x.sub:=by rw[hy]
 have yr:y.B=x.B:=by rw[hy]
 have yg:y.D=[]:=by rw[hy];exact hg
 have y1:y.M=x.M/\y.K=x.K/\y.born=x.born/\y.per=x.per/\y.V=x.V/\y.Q=x.Q/\y.S=x.S:=by rw[hy];exact⟨rfl,rfl,rfl,rfl,rfl,rfl,rfl⟩
 rw[<-hy];clear hy;have nd:∀q,¬hY y q:=λq d=>by have:=d.1;omega
 have eY:∀u m m',eE x u->cL x u m->cL y u m':=λu m m' hg1 hl=>by
  have key:u.k=2->u.a.toNat<i:=λhk=>by
   have:=hg1 hk;have:u.a.toNat≠i:=λe=>by rw[e] at this;omega
   omega
  refine⟨?_,λhk=>.inr ⟨?_,nd _⟩⟩
  ·rw[yl];rcases hl.1 with f | f | f
   ·exact .inl f
   ·exact .inr (.inl f)
   ·refine .inr (.inr ⟨f.1,f.2.1,f.2.2.1,?_⟩);have:=key f.1;omega
  ·rw[yc _ (key hk)];exact(hg1 hk).2
 have r:=h.r1;refine⟨⟨by rw[y1.1];exact r.M,by rw[yr];exact r.B,by rw[yl,y1.1];have:=r.A;omega,by rw[yg];simp,by rw[y1.2.2.1];exact r.born,by rw[y1.2.2.2.2.2.1];exact r.Q,by rw[y1.2.2.2.2.2.2];exact r.S,by rw[y1.2.2.2.1];exact r.per,by rw[y1.2.2.2.2.1];exact r.V,by rw[yp];omega,by rw[yh,yl];omega,by rw[ys];exact r.sub⟩,⟨λq hq=>?_,λq hq hs j hj hh=>?_⟩,⟨by rw[y1.2.1,yu];exact h.r3.1,by rw[y1.2.1,y1.1];exact h.r3.2⟩,⟨λq hq=>?_,λq hq=>⟨λe=>nd q e.1,λj hj=>⟨λd=>(nd q d).elim,λ_=>?_⟩⟩⟩,⟨λ_=>by rw[yg];rfl,λq hq=>?_,λg hg'=>by rw[yg] at hg';cases hg'⟩,?_,λe=>?_,λq hq e=>?_⟩
 ·rw[yl] at hq;unfold cQ;rw[yc q hq];rcases h.r2.1 q (by omega) with a | ⟨a,b⟩ | ⟨a,b⟩
  ·exact .inl a
  ·have hto:(x.c q).to.toNat<i:=by have:=b.2.2.1;have:=b.2.2.2.1;omega
   exact .inr (.inl ⟨a,b.1,by rw[yp];omega,b.2.2.1,b.2.2.2.1,by rw[yc _ hto];exact b.2.2.2.2.1,λe=>by rw[yp] at e;omega⟩)
  ·exact .inr (.inr ⟨a,b.1,b.2.1,b.2.2.1,by rw[y1.2.2.1];exact b.2.2.2.1,b.2.2.2.2⟩)
 ·rw[yl] at hq;rw[yc q hq,yc j (by omega)] at hh;rw[yc q hq] at hs;exact h.r2.2 q (by omega) hs j hj hh
 ·have hq2:q<x.B.length:=by rw[<-yr];exact hq
  have e2:y.B[q]=x.B[q]:=by simp [yr]
  rw[e2];exact eY _ _ _ (g1 q hq2) (h.r4.1 q hq2)
 ·rw[yl] at hq;rw[yc q hq] at hj ⊢;have h4:=((h.r4.2 q (by omega)).2 j hj).2 (λd=>by have:=d.1;omega);exact⟨eY _ _ _ (g2 q j (by omega) hj).1 h4.1,eY _ _ _ (g2 q j (by omega) hj).2 h4.2⟩
 ·rw[yl] at hq;have c:=h.cols ⟨by omega,by omega,by omega⟩ q (by omega);unfold eV;rw[yc q hq,yg];exact⟨λe=>(c.1 e).elim,λ_=>by simp [cnt],λe=>(c.2 e).elim⟩
 ·unfold R6;rw[yp,ys];exact⟨λe=>by omega,λe=>by omega,λe=>by omega,λ_=>h.r6.2.2.2 (by omega)⟩
 ·exfalso;rcases e with e | e <;> omega
 ·rw[yl] at hq;have:=e.2.1;rw[yh] at this;omega
theorem Snd.u6(h:Snd x)(hp:x.E=6):Snd (cN x):=by
 have hh:=h.r1.I;unfold cN
 split
 ·rename_i he;refine h.turned ⟨by omega,by omega,by omega⟩ 0 0 0 _ ⟨by omega,by omega,by omega,by omega,by omega⟩ ⟨by omega,by omega⟩ ⟨by omega,by omega⟩ (by have:=h.r1.Q;split <;> omega) (λ_ i hi e=>h.r8 i hi ⟨hp,by omega,e⟩) (λi k _ _ e=>(e ⟨by omega,λh5=>by omega⟩).elim) ⟨λ_=>⟨rfl,rfl⟩,λe=>?_,λe=>?_,λe=>?_⟩ (λe=>by omega) (λi hi e=>?_)
  ·have e':(0:Int)=2:=e;omega
  ·have e':(0:Int)=5:=e;omega
  ·have e':(0:Int)=1\/(0:Int)=3\/(0:Int)=6:=e;omega
  ·have e':(0:Int)=6:=e.1;omega
 ·rename_i hne;have e:x.I=(((x.I-1).toNat:Nat):Int)+1:=by omega
  have s:=h.shut hp _ e;exact s.drop hp _ rfl
def dD(x:Hp):Hp:=if x.E=1 then eZ x else if x.E=2 then dY x else if x.E=3 then dQ x else if x.E=4 then unit4 x else if x.E=5 then eH x else if x.E=6 then cN x else x
theorem Snd.unit(h:Snd x):Snd (dD x):=by
 unfold dD
 split
 ·rename_i e;exact h.u1 e
 split
 ·rename_i e;exact h.u2 e
 split
 ·rename_i e;exact h.u3 e
 split
 ·rename_i e;exact h.u4 e
 split
 ·rename_i e;exact h.u5 e
 split
 ·rename_i e;exact h.u6 e
 ·exact h
def sm(F:Cl->Nat)(cs:List Cl):Nat:=(cs.map F).sum
theorem b2k(F:Cl->Nat)(cs:List Cl)(i:Nat)(c:Cl)(hi:i<cs.length):sm F (cs.set i c)+F cs[i]=sm F cs+F c:=by
 induction cs generalizing i with
 | nil=>simp at hi
 | cons a cs ih=>
  cases i with
  | zero=>simp [sm];omega
  | succ i=>
   have:=ih i (by simpa using hi);simp [sm] at this ⊢;omega
theorem c2y(F:Cl->Nat)(b:Nat):∀(cs:List Cl),(∀c,c∈cs->F c<=b)->sm F cs<=b*cs.length
 | [],_=>by simp [sm]
 | c::cs,h=>by
  have h1:=c2y F b cs (λd hd=>h d (by simp [hd]));have h2:=h c (by simp);simp only [sm,List.map_cons,List.sum_cons,List.length_cons,Nat.mul_add] at h1 ⊢;omega
theorem sm_drop(F:Cl->Nat)(cs:List Cl)(i:Nat)(hi:i<cs.length):sm F (cs.drop i)=F cs[i]+sm F (cs.drop (i+1)):=by
 rw[List.drop_eq_getElem_cons hi];simp only [sm,List.map_cons,List.sum_cons]
theorem b8c(F:Cl->Nat)(cs:List Cl)(i k:Nat)(c:Cl)(hi:i<cs.length)(h:F c=F cs[i]):sm F ((cs.set i c).drop k)=sm F (cs.drop k):=by
 have e:(cs.set i c).map F=cs.map F:=by
  refine List.ext_getElem (by simp) (λj h1 h2=>?_);simp only [List.getElem_map,List.getElem_set]
  split
  ·rename_i q;subst q;exact h
  ·rfl
 simp only [sm,List.map_drop,e]
def D2(c:Cl):Nat:=if c.st=1/\c.J≠2 then c.F.length+2+(if c.J=0 then 1 else 0) else 0
def D4(c:Cl):Nat:=if c.st=0 then 1 else 0
def D5(c:Cl):Nat:=c.F.length+1
def part(x:Hp):Nat:=
 if x.E=2 then sm D2 x.A-x.sub.toNat else if x.E=4 then sm D4 x.A else if x.E=5 then sm D5 (x.A.drop x.I.toNat)-x.sub.toNat else if x.E=6 then x.I.toNat else ((x.A.length:Int)-x.I).toNat
def mu(x:Hp):Nat:=if x.E=0 then 0 else (6-x.E).toNat*2000000+part x+1
theorem Snd.pbound(h:Snd x):part x<2000000:=by
 have n8:=h.ok.n8
 have p2:∀c,c∈x.A->c.F.length<=200:=λc hc=>by
  obtain⟨i,hi,e⟩:=List.getElem_of_mem hc;have:=h.ok.p200 i hi;rw[<-e,Hp.c_eq x i hi];exact this
 have hh:=h.r1.I;unfold part
 split
 ·have:=c2y D2 203 x.A (λc hc=>by have:=p2 c hc;unfold D2;split <;> (try split) <;> omega);omega
 split
 ·have:=c2y D4 1 x.A (λc hc=>by unfold D4;split <;> omega);omega
 split
 ·have:=c2y D5 201 (x.A.drop x.I.toNat) (λc hc=>by have:=p2 c (List.mem_of_mem_drop hc);unfold D5;omega);simp only [List.length_drop] at this;omega
 split <;> omega
theorem Snd.mu_le(h:Snd x):mu x<=14000000:=by
 have hp:=h.pbound;have:=h.r1.E;unfold mu;split <;> omega
theorem a3g(hp:y.E=x.E)(h0:x.E≠0)(hl:part y<part x):mu y<mu x:=by
 unfold mu;rw[hp,if_neg h0,if_neg h0];omega
theorem a9f(s:Snd y)(hp:y.E=x.E+1)(h1:1<=x.E/\x.E<=5):mu y<mu x:=by
 have:=s.pbound;unfold mu;rw[if_neg (by omega),if_neg (by omega),hp];omega
theorem c4h(x:Hp)(i:Nat)(hi:i<x.A.length):sm D2 (uW x i).A+(uW x i).D.length=sm D2 x.A+x.D.length:=by
 unfold uW;by_cases hb:eJ x i=true
 ·rw[if_pos hb];have hp:=(a5h hb).2;have:=b2k D2 x.A i (tY (x.c i)) hi;have e1:D2 (tY (x.c i))=(x.c i).F.length+2:=by simp [D2,tY,hp.1]
  have e2:D2 (x.c i)=(x.c i).F.length+3:=by simp [D2,hp.1,hp.2]
  rw[Hp.c_eq x i hi,e1,e2] at this;simp only [List.length_append,List.length_singleton];omega
 ·rw[if_neg hb]
theorem a8f(x:Hp)(y:Wd)(hy:eE x y):sm D2 (shadeW x y).A+(shadeW x y).D.length=sm D2 x.A+x.D.length:=by
 unfold shadeW
 split
 ·rename_i e;exact c4h x _ (hy (by simpa using e)).1
 ·rfl
theorem b8d:∀(ys:List Wd) (z:Hp),(∀y,y∈ys->eE z y)->sm D2 (ys.foldl shadeW z).A+(ys.foldl shadeW z).D.length=sm D2 z.A+z.D.length
 | [],_,_=>rfl
 | y::ys,z,h=>by
  have h1:=h y (by simp);rw[List.foldl_cons,b8d ys (shadeW z y) (λu hu=>(h u (by simp [hu])).keep (a0a z y).2.1 (a2r z y h1)),a8f z y h1]
theorem b2m(x:Hp)(y:Wd):x.D.length<=(shadeW x y).D.length:=by
 obtain⟨L,e⟩:=b1d x y;rw[e];simp
theorem Snd.less{x:Hp}(h:Snd x)(h0:x.E≠0):mu (dD x)<mu x:=by
 have hr:=h.r1.E;have hh:=h.r1.I;have hs:=h.r1.sub;by_cases p1:x.E=1
 ·have s:=h.u1 p1;rw[show dD x=eZ x by unfold dD;rw[if_pos p1]];unfold eZ at s ⊢
  split
  ·rename_i e;rw[if_pos e] at s;exact a9f s (by show(2:Int)=x.E+1;omega) ⟨by omega,by omega⟩
  ·rename_i e;have hin:x.I.toNat<x.A.length:=by omega
   have q:=cV x x.I.toNat;refine a3g ?_ h0 ?_
   ·show(if tJ (x.c x.I.toNat)=true then uW x x.I.toNat else x).E=x.E
    split
    ·exact q.2.2.2.2.2.1
    ·rfl
   ·have e1:∀z:Hp,z.E=1->part z=((z.A.length:Int)-z.I).toNat:=λz hz=>by
     unfold part;rw[if_neg (by omega),if_neg (by omega),if_neg (by omega),if_neg (by omega)]
    by_cases hk:tJ (x.c x.I.toNat)=true
    ·rw[if_pos hk,e1 x p1,e1 _ (by show(uW x x.I.toNat).E=1;rw[q.2.2.2.2.2.1];exact p1)];show(((uW x x.I.toNat).A.length:Int)-(x.I+1)).toNat<_;rw[q.2.2.2.2.1];omega
    ·rw[if_neg hk,e1 x p1];refine Nat.lt_of_le_of_lt (Nat.le_of_eq (e1 _ ?_)) ?_
     ·exact p1
     show((x.A.length:Int)-(x.I+1)).toNat<_;omega
 by_cases p2:x.E=2
 ·have s:=h.u2 p2;have h6:=h.r6.2.1 p2
  have e2:∀z:Hp,z.E=2->part z=sm D2 z.A-z.sub.toNat:=λz hz=>by
   unfold part;rw[if_pos hz]
  rw[show dD x=dY x by unfold dD;rw[if_neg p1,if_pos p2]];cases hg:x.D with
  | cons g G=>
   have hl:=h6.2.2 (by rw[hg];simp);have eg:x.g0=g.toNat:=by simp [Hp.g0,hg]
   rw[eg] at hl
   have hgin:∃i:Nat,g=(i:Int)/\i<x.A.length/\(x.c i).st=1/\(x.c i).J=1:=by
    have hgm:g∈x.D:=by rw[hg];exact List.mem_cons_self ..
    have hu:=b0b h.r2 h.r5 g hgm;have hgr:=h.r5.2.2 g hgm;refine⟨g.toNat,by omega,by omega,hu.2,hu.1⟩
   obtain⟨i,rfl,hi,hst,hco⟩:=hgin;have et:((i:Int)).toNat=i:=by omega
   rw[et] at hl;have d2:D2 (x.c i)=(x.c i).F.length+2:=by simp [D2,hst,hco]
   have big:D2 (x.c i)<=sm D2 x.A:=by
    have:=b2k D2 x.A i Cl0 hi;have z0:D2 Cl0=0:=by simp [D2,Cl0]
    rw[Hp.c_eq x i hi,z0] at this;omega
   unfold dY;rw[hg];simp only [et];by_cases hlt:x.sub<(x.c i).F.length
   ·rw[if_pos hlt];have gp:=h.good_pair (.inr p2) i x.sub.toNat hi (by omega);have w1:=a0a x ((x.c i).p x.sub.toNat).key;have gk:=gp.2.keep w1.2.1 (a2r x _ gp.1);have w2:=a0a (shadeW x ((x.c i).p x.sub.toNat).key) ((x.c i).p x.sub.toNat).val;have s1:=a8f x _ gp.1;have s2:=a8f _ _ gk;have g1:=b2m x ((x.c i).p x.sub.toNat).key;have g2:=b2m (shadeW x ((x.c i).p x.sub.toNat).key) ((x.c i).p x.sub.toNat).val;have ph:(shadeW (shadeW x ((x.c i).p x.sub.toNat).key) ((x.c i).p x.sub.toNat).val).E=x.E:=by rw[w2.2.2.1,w1.2.2.1]
    refine a3g ph h0 ?_;rw[e2 x p2,e2 _ (by show(shadeW (shadeW x ((x.c i).p x.sub.toNat).key) ((x.c i).p x.sub.toNat).val).E=2;rw[ph];exact p2)];show sm D2 (shadeW (shadeW x ((x.c i).p x.sub.toNat).key) ((x.c i).p x.sub.toNat).val).A-(x.sub+1).toNat<_;omega
   ·rw[if_neg hlt];refine a3g rfl h0 ?_;rw[e2 x p2];refine Nat.lt_of_le_of_lt (Nat.le_of_eq (e2 _ ?_)) ?_
    ·exact p2
    show sm D2 (x.A.set i (qV (x.c i)))-(0:Int).toNat<_;have:=b2k D2 x.A i (qV (x.c i)) hi;have z0:D2 (qV (x.c i))=0:=by simp [D2,qV]
    rw[Hp.c_eq x i hi,z0] at this;omega
  | nil=>
   have lk:=(h.look p2).1;have h60:=h6.2.1 (by rw[hg];rfl);unfold dY at s ⊢;rw[hg] at s ⊢;simp only at s ⊢;by_cases hq:(qC x).D=[]
   ·rw[if_pos hq] at s ⊢;exact a9f s (by show(3:Int)=x.E+1;omega) ⟨by omega,by omega⟩
   ·rw[if_neg hq];refine a3g lk.E h0 ?_;rw[e2 x p2,e2 _ (by rw[lk.E];exact p2),lk.sub,h60]
    have fs:=b8d x.B x (λy hy=>by
     obtain⟨i,hi,e⟩:=List.getElem_of_mem hy;rw[<-e];exact h.good_reg i hi)
    have fs2:sm D2 (qC x).A+(qC x).D.length=sm D2 x.A+x.D.length:=fs;have:(qC x).D.length≠0:=λe=>hq (List.eq_nil_of_length_eq_zero e)
    rw[hg] at fs2;simp only [List.length_nil] at fs2;simp only [Int.toNat_zero];omega
 by_cases p3:x.E=3
 ·have s:=h.u3 p3
  have e3:∀z:Hp,z.E=3->part z=((z.A.length:Int)-z.I).toNat:=λz hz=>by
   unfold part;rw[if_neg (by omega),if_neg (by omega),if_neg (by omega),if_neg (by omega)]
  rw[show dD x=dQ x by unfold dD;rw[if_neg p1,if_neg p2,if_pos p3]];unfold dQ at s ⊢
  split
  ·rename_i e;rw[if_pos e] at s;exact a9f s (by show(4:Int)=x.E+1;omega) ⟨by omega,by omega⟩
  ·split
   all_goals
    refine a3g (by rfl) h0 ?_;rw[e3 x p3];refine Nat.lt_of_le_of_lt (Nat.le_of_eq (e3 _ ?_)) ?_
    ·exact p3
    simp only [List.length_set];omega
 by_cases p4:x.E=4
 ·have s:=h.u4 p4
  have e4:∀z:Hp,z.E=4->part z=sm D4 z.A:=λz hz=>by
   unfold part;rw[if_neg (by omega),if_pos hz]
  rw[show dD x=unit4 x by unfold dD;rw[if_neg p1,if_neg p2,if_neg p3,if_pos p4]];unfold unit4 at s ⊢
  split
  ·rename_i e;rw[if_pos e] at s;exact a9f s (by show(5:Int)=x.E+1;omega) ⟨by omega,by omega⟩
  ·rename_i e;have ff:=a0o x;rcases a0w x x.A.length with⟨q,_⟩ | ⟨f,q,hf,hst,_⟩
   ·omega
   ·rw[q] at e ⊢;have ef:((f:Int)).toNat=f:=by omega
    rw[ef];obtain⟨t,ht⟩:∃t,t=cH x:=⟨_,rfl⟩;rw[<-ht] at ff e ⊢;have htf:t<f:=by omega
    have ht0:=ff.2.2 (by omega);refine a3g rfl h0 ?_;rw[e4 x p4];refine Nat.lt_of_le_of_lt (Nat.le_of_eq (e4 _ ?_)) ?_
    ·exact p4
    show sm D4 ((x.A.set t (x.c f)).set f (mvC t))<_;have a1:=b2k D4 x.A t (x.c f) (by omega);have a2:=b2k D4 (x.A.set t (x.c f)) f (mvC t) (by rw[List.length_set];exact hf)
    have a3:(x.A.set t (x.c f))[f]'(by rw[List.length_set];exact hf)=x.c f:=by
     rw[List.getElem_set,if_neg (by omega),Hp.c_eq]
    rw[a3] at a2;rw[Hp.c_eq x t (by omega)] at a1;have b1:D4 (x.c f)=0:=by simp [D4,hst]
    have b2:D4 (mvC t)=0:=by simp [D4,mvC]
    have b3:D4 (x.c t)=1:=by simp [D4,ht0]
    omega
 by_cases p5:x.E=5
 ·have s:=h.u5 p5;have h6:=h.r6.2.2.1 p5
  have e5:∀z:Hp,z.E=5->part z=sm D5 (z.A.drop z.I.toNat)-z.sub.toNat:=λz hz=>by
   unfold part;rw[if_neg (by omega),if_neg (by omega),if_pos hz]
  rw[show dD x=eH x by unfold dD;rw[if_neg p1,if_neg p2,if_neg p3,if_neg p4,if_pos p5]];unfold eH at s ⊢
  split
  ·rename_i e;rw[if_pos e] at s;exact a9f s (by show(6:Int)=x.E+1;omega) ⟨by omega,by omega⟩
  ·rename_i e;obtain⟨i,hi⟩:∃i:Nat,x.I=(i:Int):=⟨x.I.toNat,by omega⟩;have hin:i<x.A.length:=by omega
   have ei:x.I.toNat=i:=by omega
   rw[ei] at h6 ⊢
   have hsub:x.sub<=(x.c i).F.length:=by
    by_cases hst:(x.c i).st=1
    ·exact h6.2 ⟨e,hst⟩
    ·have:=h6.1 (.inr hst);omega
   have dr:=sm_drop D5 x.A i hin;have d5:D5 x.A[i]=(x.c i).F.length+1:=by rw[Hp.c_eq x i hin];rfl
   split
   ·refine a3g rfl h0 ?_;rw[e5 x p5];refine Nat.lt_of_le_of_lt (Nat.le_of_eq (e5 _ ?_)) ?_
    ·exact p5
    show sm D5 ((x.A.set i (qD x (x.c i) x.sub.toNat)).drop x.I.toNat)-(x.sub+1).toNat<_;rw[b8c D5 x.A i _ _ hin (by rw[Hp.c_eq x i hin];simp [D5,qD]),ei];omega
   ·refine a3g rfl h0 ?_;rw[e5 x p5];refine Nat.lt_of_le_of_lt (Nat.le_of_eq (e5 _ ?_)) ?_
    ·exact p5
    show sm D5 (x.A.drop (x.I+1).toNat)-(0:Int).toNat<_;rw[show(x.I+1).toNat=i+1 by omega,ei];omega
 ·have p6:x.E=6:=by omega
  have e6:∀z:Hp,z.E=6->part z=z.I.toNat:=λz hz=>by
   unfold part;rw[if_neg (by omega),if_neg (by omega),if_neg (by omega),if_pos hz]
  rw[show dD x=cN x by unfold dD;rw[if_neg p1,if_neg p2,if_neg p3,if_neg p4,if_neg p5,if_pos p6]];unfold cN
  split
  ·show(if (0:Int)=0 then 0 else _)<mu x;rw[if_pos rfl];unfold mu;rw[if_neg h0];omega
  ·rename_i e;obtain⟨i,hi⟩:∃i:Nat,i=(x.I-1).toNat:=⟨_,rfl⟩;rw[<-hi]
   have k:(zU (dH x i) i).E=x.E/\(zU (dH x i) i).I=(i:Int):=by
    unfold zU;split <;> exact⟨rfl,rfl⟩
   refine a3g k.1 h0 ?_;rw[e6 x p6,e6 _ (by rw[k.1];exact p6),k.2];omega
def itU:Nat->Hp->Hp
 | 0,x=>x
 | k+1,x=>dD (itU k x)
theorem Snd.itU{x:Hp}(h:Snd x):∀k,Snd (itU k x)
 | 0=>h
 | k+1=>(Snd.itU h k).unit
def yZ(x:Hp)(k:Nat):Prop:=∀j,j<k->(itU j x).E≠0
def a9g(x:Hp)(k:Nat):Prop:=(itU k x).E=0/\yZ x k
theorem yZ.zero(x:Hp):yZ x 0:=λj h=>by omega
theorem yZ.succ(h:yZ x k)(h0:(itU k x).E≠0):yZ x (k+1):=λj hj=>by
 by_cases e:j=k
 ·rw[e];exact h0
 ·exact h j (by omega)
theorem a9g.uniq(a:a9g x j)(b:a9g x k):j=k:=by
 rcases Nat.lt_trichotomy j k with h | h | h
 ·exact(b.2 j h a.1).elim
 ·exact h
 ·exact(a.2 k h b.1).elim
theorem yZ.mu{x:Hp}(s:Snd x):∀k,yZ x k->mu (itU k x)+k<=mu x
 | 0,_=>by simp [Go.Proofs.YtddkhnclmeikfaaGreat.itU]
 | k+1,h=>by
  have h1:=yZ.mu s k (λj hj=>h j (by omega));have h2:=(s.itU k).less (h k (by omega));simp only [Go.Proofs.YtddkhnclmeikfaaGreat.itU];omega
theorem yZ.le(s:Snd x)(h:yZ x k):k<=14000000:=by
 have:=yZ.mu s k h;have:=s.mu_le;omega
def a5i(x:Hp)(n k:Nat):Prop:=yZ x k/\k<=n/\(k=n\/(itU k x).E=0)
theorem a5i.uniq{n:Nat}(a:a5i x n j)(b:a5i x n k):j=k:=by
 rcases Nat.lt_trichotomy j k with h | h | h
 ·rcases a.2.2 with e | e
  ·have:=b.2.1;omega
  ·exact(b.1 j h e).elim
 ·exact h
 ·rcases b.2.2 with e | e
  ·have:=a.2.1;omega
  ·exact(a.1 k h e).elim
end Go.Proofs.YtddkhnclmeikfaaGreat
