import Derived.Test.YtddkhnclmeikfaaGreatUn7
namespace Go.Proofs.YtddkhnclmeikfaaGreat
open Go.RowKit
variable{x y:Hp}{i j r:Nat}{φ:Nat->Nat}
structure Ovr(x y:Hp)(φ:Nat->Nat):Prop where
 rl:y.B.length=x.B.length
 rg:∀k (h:k<x.B.length) (h':k<y.B.length),y.B[k].k=x.B[k].k/\(x.B[k].k=2->tgt y y.B[k] = φ (tgt x x.B[k]))
 g:∀i,tK x i->(y.c (φ i)).st=1/\φ i<y.A.length/\(y.c (φ i)).U=(x.c i).U/\(y.c (φ i)).F.length=(x.c i).F.length
 ky:∀i p,tK x i->p<(x.c i).F.length->((y.c (φ i)).p p).key.k=((x.c i).p p).key.k/\(((x.c i).p p).key.k=2->tgt y ((y.c (φ i)).p p).key = φ (tgt x ((x.c i).p p).key))
 vl:∀i p,tK x i->p<(x.c i).F.length->((y.c (φ i)).p p).val.k=((x.c i).p p).val.k/\(((x.c i).p p).val.k=2->tgt y ((y.c (φ i)).p p).val = φ (tgt x ((x.c i).p p).val))
 b:∀j,tK y j->∃i,tK x i/\j = φ i
theorem Ovr.to(o:Ovr x y φ)(s:Snd x)(h:uY x i):uY y (φ i):=by
 have:=h (λi=>tK x i/\uY y (φ i)) (λk hk e=>⟨(a7c s.r2 s.r4 k hk e).2.2.2.2,?_⟩) (λi hi hs sp=>?_) (λj p hj hp e=>⟨((a1u s.r2 s.r4 j p hj.1 hp).1 e).2.2.2.2,?_⟩) (λj p hj hp e=>⟨((a1u s.r2 s.r4 j p hj.1 hp).2 e).2.2.2.2,?_⟩)
 ·exact this.2
 ·have h':k<y.B.length:=by rw[o.rl];exact hk
  have r:=o.rg k hk h';rw[<-r.2 e];exact uY.reg k h' (by rw[r.1];exact e)
 ·have gd:=a4k s.r4 i hi hs sp;have r:=o.g i gd;exact⟨gd,uY.U _ r.2.1 r.1 (by unfold cU at sp ⊢;rw[r.2.2.1];exact sp)⟩
 ·have r:=o.ky j p hj.1 hp;rw[<-r.2 e];exact uY.key _ p hj.2 (by rw[(o.g j hj.1).2.2.2];exact hp) (by rw[r.1];exact e)
 ·have r:=o.vl j p hj.1 hp;rw[<-r.2 e];exact uY.val _ p hj.2 (by rw[(o.g j hj.1).2.2.2];exact hp) (by rw[r.1];exact e)
theorem Ovr.from(o:Ovr x y φ)(s:Snd x)(t:Snd y)(h:uY y j):∃i,uY x i/\j = φ i:=by
 refine h (λj=>∃i,uY x i/\j = φ i) (λk hk e=>?_) (λj hj hs sp=>?_) (λj p hj hp e=>?_) (λj p hj hp e=>?_)
 ·have h':k<x.B.length:=by rw[<-o.rl];exact hk
  have r:=o.rg k h' hk;rw[r.1] at e;exact⟨_,uY.reg k h' e,r.2 e⟩
 ·obtain⟨i,gi,rfl⟩:=o.b j (a4k t.r4 j hj hs sp);have r:=o.g i gi;exact⟨i,uY.U i gi.1 gi.2.1 (by unfold cU at sp ⊢;rw[<-r.2.2.1];exact sp),rfl⟩
 ·obtain⟨i,ri,rfl⟩:=hj;have gi:=uY.good s.r2 s.r4 ri;rw[(o.g i gi).2.2.2] at hp;have r:=o.ky i p gi hp;rw[r.1] at e;exact⟨_,uY.key i p ri hp e,r.2 e⟩
 ·obtain⟨i,ri,rfl⟩:=hj;have gi:=uY.good s.r2 s.r4 ri;rw[(o.g i gi).2.2.2] at hp;have r:=o.vl i p gi hp;rw[r.1] at e;exact⟨_,uY.val i p ri hp e,r.2 e⟩
def Kept(x:Hp):Prop:=∀i,tK x i->uY x i
theorem Ovr.kept(o:Ovr x y φ)(s:Snd x)(k:Kept x):Kept y:=λj gj=>by
 obtain⟨i,gi,rfl⟩:=o.b j gj;exact o.to s (k i gi)
def S0(F:Nat->Nat):Nat->Nat
 | 0=>0
 | k+1=>S0 F k+F k
theorem b2f(x:Hp)(p:Nat->Bool):∀k,zY x p k=S0 (λi=>if p i then 1+(x.c i).F.length else 0) k
 | 0=>rfl
 | k+1=>by unfold zY S0;rw[b2f x p k]
theorem b8a{F G:Nat->Nat}:∀k,(∀i,i<k->F i=G i)->S0 F k=S0 G k
 | 0,_=>rfl
 | k+1,h=>by unfold S0;rw[b8a k (λi hi=>h i (by omega)),h k (by omega)]
theorem b6d{F:Nat->Nat}(k:Nat):∀m,(∀i,k<=i->F i=0)->k<=m->S0 F m=S0 F k
 | 0,_,h=>by rw[show k=0 by omega]
 | m+1,h0,h=>by
  by_cases e:k=m+1
  ·rw[e]
  ·show S0 F m+F m=S0 F k;rw[b6d k m h0 (by omega),h0 m (by omega)];omega
theorem c2w{F G:Nat->Nat}(t f:Nat)(hne:t≠f)(h:∀i,i≠t->i≠f->G i=F i)(h1:G t=F f)(h2:G f=F t):∀k,S0 G k+(if t<k then F t else 0)+(if f<k then F f else 0)=S0 F k+(if t<k then G t else 0)+(if f<k then G f else 0)
 | 0=>by simp [S0]
 | k+1=>by
  have ih:=c2w t f hne h h1 h2 k;unfold S0;by_cases a:k=t
  ·subst a;have:(f<k+1)↔(f<k):=by omega
   simp only [this,Nat.lt_irrefl,if_false,Nat.lt_succ_self,if_true] at ih ⊢;omega
  ·by_cases b:k=f
   ·subst b;have:(t<k+1)↔(t<k):=by omega
    simp only [this,Nat.lt_irrefl,if_false,Nat.lt_succ_self,if_true] at ih ⊢;omega
   ·have e1:(t<k+1)↔(t<k):=by omega
    have e2:(f<k+1)↔(f<k):=by omega
    rw[h k a b];simp only [e1,e2];omega
theorem Ovr.live(o:Ovr x y (λi=>i))(s:Snd x)(t:Snd y)(l:zL x r):zL y r:=by
 obtain⟨_,p,hp,rfl⟩ | ⟨no,_⟩:=l
 ·have hq:∀i,p i=true↔uY y i:=λi=>by
   rw[hp];exact⟨λh=>o.to s h,λh=>by obtain⟨j,h,rfl⟩:=o.from s t h;exact h⟩
  refine .inl ⟨t.ok,p,hq,?_⟩;rw[b2f,b2f]
  have zx:∀i,x.A.length<=i->(if p i then 1+(x.c i).F.length else 0)=0:=λi hi=>by
   rw[if_neg (λh=>by have:=(uY.good s.r2 s.r4 ((hp i).1 h)).1;omega)]
  have zy:∀i,y.A.length<=i->(if p i then 1+(y.c i).F.length else 0)=0:=λi hi=>by
   rw[if_neg (λh=>by have:=(uY.good t.r2 t.r4 ((hq i).1 h)).1;omega)]
  rw[<-b6d x.A.length (x.A.length+y.A.length) zx (by omega),<-b6d y.A.length (x.A.length+y.A.length) zy (by omega)];refine b8a _ (λi _=>?_);by_cases e:p i=true
  ·rw[if_pos e,if_pos e,(o.g i (uY.good s.r2 s.r4 ((hp i).1 e))).2.2.2]
  ·rw[if_neg e,if_neg e]
 ·exact absurd s.ok no
theorem a8e(L:List Cl)(i q:Nat)(c:Cl):(L.set i c).getD q Cl0=if q=i/\i<L.length then c else L.getD q Cl0:=by
 simp only [List.getD_eq_getElem?_getD,List.getElem?_set];by_cases e:i=q
 ·subst e;by_cases l:i<L.length
  ·simp [l]
  ·simp [l]
 ·simp [e,Ne.symm e]
theorem c7g(hc:∀q,(y.c q).un=(x.c q).un)(i:Nat):zH y i=zH x i:=by
 unfold zH;rw[(eN (hc i)).1,(eN (hc i)).2.2.2.2.2.1]
theorem b0d(hc:∀q,(y.c q).un=(x.c q).un)(u:Wd):tgt y u=tgt x u:=c7g hc _
theorem a6d(hr:y.B=x.B)(hl:y.A.length=x.A.length)(hc:∀q,(y.c q).un=(x.c q).un)(hb:∀j,tK y j->tK x j):Ovr x y (λi=>i) where
 rl:=by rw[hr]
 rg:=λk h h'=>by
  have e:y.B[k]=x.B[k]:=by simp only [hr]
  rw[e];exact⟨rfl,λ_=>b0d hc _⟩
 g:=λi gi=>by
  have u:=eN (hc i);exact⟨by rw[u.1];exact gi.2.1,by rw[hl];exact gi.1,u.2.2.2.1,by rw[u.2.2.2.2.2.2]⟩
 ky:=λi p gi hp=>by rw[b8b hc];exact⟨rfl,λ_=>b0d hc _⟩
 vl:=λi p gi hp=>by rw[b8b hc];exact⟨rfl,λ_=>b0d hc _⟩
 b:=λj gj=>⟨j,hb j gj,rfl⟩
theorem a7g(hl:y.A.length=x.A.length)(hc:∀q,(y.c q).un=(x.c q).un)(hp:x.E≠3)(g:tK y j):tK x j:=
 ⟨by rw[<-hl];exact g.1,by rw[<-(eN (hc j)).1];exact g.2.1,λd=>hp d.1⟩
theorem a2z(hp:x.E≠3)(p h s r:Int):Ovr x { x with E:=p,I:=h,sub:=s,Q:=r } (λi=>i):=
 a6d rfl rfl (λ_=>rfl) (λ_ g=>a7g (x:=x) (y:={ x with E:=p,I:=h,sub:=s,Q:=r }) rfl (λ_=>rfl) hp g)
def Col(x:Hp):Prop:=∀i,i<x.A.length->(x.c i).J≠0->uY x i
theorem a6e(hr:y.B=x.B)(hl:y.A.length=x.A.length)(hc:∀q,(y.c q).un=(x.c q).un)(h:uY x i):uY y i:=by
 refine h (uY y) (λk hk e=>?_) (λi hi hs sp=>?_) (λj p hj hp e=>?_) (λj p hj hp e=>?_)
 ·have h':k<y.B.length:=by rw[hr];exact hk
  have e1:y.B[k]=x.B[k]:=by simp only [hr]
  rw[<-b0d hc,<-e1];exact uY.reg k h' (by rw[e1];exact e)
 ·have u:=eN (hc i);exact uY.U i (by rw[hl];exact hi) (by rw[u.1];exact hs) (by unfold cU at sp ⊢;rw[u.2.2.2.1];exact sp)
 ·rw[<-b0d hc,<-b8b hc];exact uY.key j p hj (by rw[b2i hc];exact hp) (by rw[b8b hc];exact e)
 ·rw[<-b0d hc,<-b8b hc];exact uY.val j p hj (by rw[b2i hc];exact hp) (by rw[b8b hc];exact e)
theorem Col.shade(c:Col x)(i:Nat)(hi:i<x.A.length)(r:uY x i):Col (uW x i):=λq hq hc=>by
 obtain⟨_,_,_,hr,hl,_⟩:=cV x i;rw[hl] at hq;refine a6e hr hl (a3u x i hi) ?_;rw[a5g x i hi] at hc;by_cases e:eJ x i=true/\q=i
 ·rw[e.2];exact r
 ·rw[if_neg e] at hc;exact c q hq hc
theorem Col.shadeW(c:Col x)(y:Wd)(hy:eE x y)(r:y.k=2->uY x y.a.toNat):Col (shadeW x y):=by
 unfold Go.Proofs.YtddkhnclmeikfaaGreat.shadeW
 split
 ·rename_i e;have e2:y.k=2:=by simpa using e
  exact c.shade _ (hy e2).1 (r e2)
 ·exact c
theorem Col.fold{x:Hp}(hm:uD x):∀(ys:List Wd) (z:Hp),(∀y,y∈ys->eE x y/\(y.k=2->uY x y.a.toNat))->Shd x z->Col z->Col (ys.foldl Go.Proofs.YtddkhnclmeikfaaGreat.shadeW z)
 | [],_,_,_,c=>c
 | y::ys,z,h,sh,c=>by
  have h1:=h y (by simp);rw[List.foldl_cons];exact Col.fold hm ys _ (λu hu=>h u (by simp [hu])) (sh.step y h1.1).1 (c.shadeW y (h1.1.keep sh.len sh.un) (λe=>a6e sh.B sh.len sh.un (h1.2 e)))
theorem Col.same(c:Col x)(hr:y.B=x.B)(hl:y.A.length=x.A.length)(hc:∀q,(y.c q).un=(x.c q).un)(hk:∀q,(y.c q).J≠0->(x.c q).J≠0):Col y:=λq hq h=>a6e hr hl hc (c q (by rw[<-hl];exact hq) (hk q h))
theorem b2j(s:Snd x)(hp:x.E<4){y:Wd}(hy:eE x y)(hk:y.k=2):tgt x y=y.a.toNat:=by
 unfold tgt zH;rw[if_neg (by simp;exact s.nomoved hp _ (hy hk).1)]
theorem Snd.o1(s:Snd x)(hp:x.E=1):Ovr x (eZ x) (λi=>i)/\(Col x->Col (eZ x))/\((eZ x).E=1\/(eZ x).E=2):=by
 have hh:=s.r1.I;unfold eZ
 split
 ·exact⟨a2z (by omega) 2 0 0 x.Q,λc=>c.same rfl rfl (λ_=>rfl) (λ_ h=>h),.inr rfl⟩
 ·rename_i ne;by_cases e:tJ (x.c x.I.toNat)=true
  ·rw[if_pos e];have hi:x.I.toNat<x.A.length:=by omega
   obtain⟨_,_,_,hr,hl,hph,_⟩:=cV x x.I.toNat;have hc:=a3u x x.I.toNat hi;have sp:=(a6c _).1 e
   have st:(x.c x.I.toNat).st=1:=by
    have h2:=s.r2.1 _ hi;unfold cU at sp;rcases h2 with⟨_,b,_⟩ | ⟨_,b⟩ | ⟨h,_⟩
    ·have:=b.2.2.1;omega
    ·have:=b.1.2.2.1;omega
    ·exact h
   refine⟨a6d hr hl hc (λj g=>a7g (x:=x) (y:={ uW x x.I.toNat with I:=x.I+1 }) hl hc (by omega) g),λc=>?_,.inl (by show(uW x _).E=1;omega)⟩;exact(c.shade _ hi (uY.U _ hi st sp)).same rfl rfl (λ_=>rfl) (λ_ h=>h)
  ·rw[if_neg e];exact⟨a2z (by omega) x.E (x.I+1) x.sub x.Q,λc=>c.same rfl rfl (λ_=>rfl) (λ_ h=>h),.inl hp⟩
theorem Snd.reach_reg(s:Snd x)(hp:x.E<4)(i:Nat)(hi:i<x.B.length)(hk:x.B[i].k=2):uY x x.B[i].a.toNat:=by
 rw[<-b2j s hp (s.good_reg i hi) hk];exact uY.reg i hi hk
theorem Snd.o2(s:Snd x)(hp:x.E=2):Ovr x (dY x) (λi=>i)/\(Col x->(dY x).E=2->Col (dY x))/\(Col x->(dY x).E=3->Kept (dY x))/\((dY x).E=2\/(dY x).E=3):=by
 have hm:uD x:=.inr hp;unfold dY
 split
 ·rename_i g G hg;have h5:=s.r5.2.2 g (by rw[hg];simp);have hgl:g.toNat<x.A.length:=by omega
  have cg:(x.c g.toNat).J=1:=(c2x s.r5 g.toNat hgl).1 (by rw[hg];simp;omega)
  split
  ·rename_i hs;have hsb:=s.r1.sub;have hk:x.sub.toNat<(x.c g.toNat).F.length:=by omega
   obtain⟨g1,g2⟩:=s.good_pair hm g.toNat x.sub.toNat hgl hk;obtain⟨ra,la,pa,ha,sa⟩:=a0a x ((x.c g.toNat).p x.sub.toNat).key;have ua:=a2r x ((x.c g.toNat).p x.sub.toNat).key g1;have g2':=g2.keep la ua;obtain⟨rb,lb,pb,hb,sb⟩:=a0a (shadeW x ((x.c g.toNat).p x.sub.toNat).key) ((x.c g.toNat).p x.sub.toNat).val;have ub:=a2r _ ((x.c g.toNat).p x.sub.toNat).val g2';have uc:∀q,((shadeW (shadeW x ((x.c g.toNat).p x.sub.toNat).key) ((x.c g.toNat).p x.sub.toNat).val).c q).un=(x.c q).un:=λq=>(ub q).trans (ua q)
   have hl:=lb.trans la;have hr:=rb.trans ra;refine⟨a6d hr hl uc (λj gj=>a7g (x:=x) (y:={ shadeW (shadeW x ((x.c g.toNat).p x.sub.toNat).key) ((x.c g.toNat).p x.sub.toNat).val with sub:=x.sub+1 }) hl uc (by omega) gj),λc _=>?_,λ_ e=>?_,.inl ?_⟩
   ·have rg:=c g.toNat hgl (by omega)
    have rk:((x.c g.toNat).p x.sub.toNat).key.k=2->uY x ((x.c g.toNat).p x.sub.toNat).key.a.toNat:=λe=>by
     rw[<-b2j s (by omega) g1 e];exact uY.key _ _ rg hk e
    have rv:((x.c g.toNat).p x.sub.toNat).val.k=2->uY x ((x.c g.toNat).p x.sub.toNat).val.a.toNat:=λe=>by
     rw[<-b2j s (by omega) g2 e];exact uY.val _ _ rg hk e
    exact((c.shadeW _ g1 rk).shadeW _ g2' (λe=>a6e ra la ua (rv e))).same rfl rfl (λ_=>rfl) (λ_ h=>h)
   ·have e':(shadeW (shadeW x ((x.c g.toNat).p x.sub.toNat).key) ((x.c g.toNat).p x.sub.toNat).val).E=3:=e;omega
   ·show(shadeW (shadeW x ((x.c g.toNat).p x.sub.toNat).key) ((x.c g.toNat).p x.sub.toNat).val).E=2;omega
  ·have hc:∀q,(({ x with A:=x.A.set g.toNat (qV (x.c g.toNat)),D:=G,sub:=0 }:Hp).c q)=if q=g.toNat/\g.toNat<x.A.length then qV (x.c g.toNat) else x.c q:=λq=>a8e _ _ _ _
   have uc:∀q,(({ x with A:=x.A.set g.toNat (qV (x.c g.toNat)),D:=G,sub:=0 }:Hp).c q).un=(x.c q).un:=λq=>by
    rw[hc];split
    ·rename_i h;rw[h.1];rfl
    ·rfl
   have hl:({ x with A:=x.A.set g.toNat (qV (x.c g.toNat)),D:=G,sub:=0 }:Hp).A.length=x.A.length:=by simp
   refine⟨a6d rfl hl uc (λj gj=>a7g hl uc (by omega) gj),λc _=>c.same rfl hl uc (λq h=>?_),λ_ e=>?_,.inl hp⟩
   ·rw[hc] at h
    split at h
    ·rename_i h1;rw[h1.1];omega
    ·exact h
   ·have e':x.E=3:=e;omega
 ·have sh:=(s.look hp).1
  have cl:Col x->Col (qC x):=λc=>Col.fold hm x.B x (λy hy=>by
   obtain⟨i,hi,e⟩:=List.getElem_of_mem hy;rw[<-e];exact⟨s.good_reg i hi,s.reach_reg (by omega) i hi⟩) (Shd.refl s) c
  have hph:=sh.E
  split
  ·refine⟨a6d (y:=dN (qC x) 3 0) sh.B sh.len sh.un (λj gj=>a7g (x:=x) (y:=dN (qC x) 3 0) sh.len sh.un (by omega) gj),λ_ e=>?_,λc _ j gj=>?_,.inr rfl⟩
   ·have e':(3:Int)=2:=e;omega
   ·refine a6e (x:=qC x) (y:=dN (qC x) 3 0) rfl rfl (λ_=>rfl) (cl c j gj.1 (λe=>gj.2.2 ⟨rfl,?_,gj.2.1,e⟩));show(0:Int)<=j;omega
  ·refine⟨a6d sh.B sh.len sh.un (λj gj=>a7g sh.len sh.un (by omega) gj),λc _=>cl c,λ_ e=>?_,.inl (by omega)⟩;omega
theorem Snd.o3(s:Snd x)(hp:x.E=3):Ovr x (dQ x) (λi=>i)/\((dQ x).E=3\/(dQ x).E=4):=by
 have hh:=s.r1.I;unfold dQ
 split
 ·rename_i e;exact⟨a6d (y:=dN x 4 0) rfl rfl (λ_=>rfl) (λj gj=>⟨gj.1,gj.2.1,λd=>by have:=d.2.1;have:j<x.A.length:=gj.1;omega⟩),.inr rfl⟩
 ·rename_i ne;have hi:x.I.toNat<x.A.length:=by omega
  split
  ·rename_i w;have w:=(b1t _).1 w;have dm:hY x x.I.toNat:=⟨hp,by omega,w.1,w.2⟩;have hc:∀q,(({ x with K:=x.K-(1+(x.c x.I.toNat).F.length),A:=x.A.set x.I.toNat Cl0,I:=x.I+1 }:Hp).c q)=if q=x.I.toNat/\x.I.toNat<x.A.length then Cl0 else x.c q:=λq=>a8e _ _ _ _
   have ht:∀u,tgt ({ x with K:=x.K-(1+(x.c x.I.toNat).F.length),A:=x.A.set x.I.toNat Cl0,I:=x.I+1 }:Hp) u=tgt x u:=λu=>by
    unfold tgt zH;rw[hc]
    split
    ·rename_i h1;rw[h1.1];simp [w.1,Cl0]
    ·rfl
   have hne:∀i,tK x i->({ x with K:=x.K-(1+(x.c x.I.toNat).F.length),A:=x.A.set x.I.toNat Cl0,I:=x.I+1 }:Hp).c i=x.c i:=λi gi=>by
    have n:¬(i=x.I.toNat/\x.I.toNat<x.A.length):=λh=>gi.2.2 (by rw[h.1];exact dm)
    rw[hc,if_neg n]
   refine⟨⟨rfl,λk h h'=>⟨rfl,λ_=>ht _⟩,λi gi=>?_,λi p gi hp=>?_,λi p gi hp=>?_,λj gj=>⟨j,?_,rfl⟩⟩,.inl hp⟩
   ·rw[hne i gi];exact⟨gi.2.1,by simpa using gi.1,rfl,rfl⟩
   ·rw[hne i gi];exact⟨rfl,λ_=>ht _⟩
   ·rw[hne i gi];exact⟨rfl,λ_=>ht _⟩
   ·have h1:=gj.2.1
    have h2:¬(j=x.I.toNat/\x.I.toNat<x.A.length):=λh=>by
     rw[hc,if_pos h] at h1;simp [Cl0] at h1
    have h3:=gj.2.2;have e:({ x with K:=x.K-(1+(x.c x.I.toNat).F.length),A:=x.A.set x.I.toNat Cl0,I:=x.I+1 }:Hp).c j=x.c j:=by rw[hc,if_neg h2]
    rw[e] at h1;refine⟨by simpa using gj.1,h1,λd=>h3 ⟨hp,?_,by rw[e];exact h1,by rw[e];exact d.2.2.2⟩⟩;show x.I+1<=j;have:=d.2.1;omega
  ·rename_i w;have w:=λh=>w ((b1t _).2 h)
   have hc:∀q,(({ x with A:=x.A.set x.I.toNat (a1i (x.c x.I.toNat)),I:=x.I+1 }:Hp).c q)=if q=x.I.toNat/\x.I.toNat<x.A.length then a1i (x.c x.I.toNat) else x.c q:=λq=>a8e _ _ _ _
   have uc:∀q,(({ x with A:=x.A.set x.I.toNat (a1i (x.c x.I.toNat)),I:=x.I+1 }:Hp).c q).un=(x.c q).un:=λq=>by
    rw[hc];split
    ·rename_i h;rw[h.1];rfl
    ·rfl
   refine⟨a6d rfl (by simp) uc (λj gj=>⟨by simpa using gj.1,by rw[<-(eN (uc j)).1];exact gj.2.1,λd=>?_⟩),.inl hp⟩;by_cases e:j=x.I.toNat
   ·exact w (e ▸ ⟨d.2.2.1,d.2.2.2⟩)
   ·have h3:=gj.2.2;refine h3 ⟨hp,?_,gj.2.1,?_⟩
    ·show x.I+1<=j;have:=d.2.1;omega
    ·rw[hc,if_neg (λh=>e h.1)];exact d.2.2.2
theorem Snd.moved_to(s:Snd x)(hi:i<x.A.length)(h:(x.c i).st=2):0<=(x.c i).to/\(x.c i).to<i/\(x.c (x.c i).to.toNat).st=1/\(x.E=4->∀k:Nat,(k:Int)<(x.c i).to->(x.c k).st≠0):=by
 rcases s.r2.1 i hi with⟨e,_⟩ | ⟨_,m⟩ | ⟨e,_⟩
 ·omega
 ·exact⟨m.2.2.1,m.2.2.2.1,m.2.2.2.2⟩
 ·omega
theorem a3f(h:(x.c i).st≠2):zH x i=i:=by unfold zH;rw[if_neg (by simpa using h)]
theorem a9e(h:(x.c i).st=2):zH x i=(x.c i).to.toNat:=by unfold zH;rw[if_pos (by simpa using h)]
theorem c0y(t f:Nat)(htf:t<f)(hf:f<x.A.length)(q:Nat):(eU x t f).c q=if q=f then mvC t else if q=t then x.c f else x.c q:=by
 show((x.A.set t (x.c f)).set f (mvC t)).getD q Cl0=_;rw[a8e,a8e,List.length_set];by_cases a:q=f
 ·rw[if_pos a,if_pos ⟨a,hf⟩]
 ·rw[if_neg a,if_neg (λh=>a h.1)];by_cases b:q=t
  ·rw[if_pos b,if_pos ⟨b,by omega⟩]
  ·rw[if_neg b,if_neg (λh=>b h.1)];rfl
theorem Snd.o4m(s:Snd x)(hp:x.E=4)(t f:Nat)(htf:t<f)(hf:f<x.A.length)(h0:(x.c t).st=0)(h1:(x.c f).st=1):Ovr x (eU x t f) (λi=>if i=f then t else i):=by
 have hc:=c0y (x:=x) t f htf hf;have nd:∀q,¬hY x q:=λq d=>by have:=d.1;omega
 have ct:(eU x t f).c t=x.c f:=by rw[hc,if_neg (by omega),if_pos rfl]
 have cf:(eU x t f).c f=mvC t:=by rw[hc,if_pos rfl]
 have co:∀q,q≠f->q≠t->(eU x t f).c q=x.c q:=λq a b=>by rw[hc,if_neg a,if_neg b]
 have sw:∀y:Wd,y.k=2->a1w x y->tgt (eU x t f) y=if tgt x y=f then t else tgt x y:=λy hk my=>by
  obtain⟨_,a0,a1,_,gd⟩:=my hk;have gs:=gd.2.1;unfold tgt at gs ⊢;by_cases a:y.a.toNat=f
  ·rw[a,a9e (by rw[cf];rfl),cf,a3f (by rw[h1];omega),if_pos rfl];simp [mvC]
  ·by_cases b:y.a.toNat=t
   ·rw[b,a3f (by rw[h0];omega),h0] at gs;omega
   ·by_cases e:(x.c y.a.toNat).st=2
    ·have m:=s.moved_to (by omega) e;rw[a9e (by rw[co _ a b];exact e),co _ a b,a9e e,if_neg (λh=>m.2.2.2 hp t (by omega) h0)]
    ·rw[a3f (by rw[co _ a b];exact e),a3f e,if_neg a]
 have rw1:∀k (h:k<x.B.length) (h':k<(eU x t f).B.length),(eU x t f).B[k]=mvW t f x.B[k]:=λk h h'=>by simp [eU]
 have ci:∀i,tK x i->(eU x t f).c (if i=f then t else i)=x.c i:=λi gi=>by
  by_cases e:i=f
  ·rw[if_pos e,ct,e]
  ·rw[if_neg e,co i e (λh=>by have:=gi.2.1;rw[h,h0] at this;omega)]
 refine⟨by simp [eU],λk h h'=>?_,λi gi=>?_,λi p gi hp=>?_,λi p gi hp=>?_,λj gj=>?_⟩
 ·rw[rw1 k h h'];have ld:=s.r4.1 k h;unfold mvW;by_cases e:x.B[k].k=2/\x.B[k].a=(f:Int)
  ·rw[if_pos e];refine⟨e.1.symm,λ_=>?_⟩;have e2:x.B[k].a.toNat=f:=by rw[e.2];simp
   unfold tgt;rw[e2,a3f (x:=x) (by rw[h1];omega),if_pos rfl];show zH (eU x t f) (t:Int).toNat=t;rw[Int.toNat_natCast,a3f (by rw[ct,h1];omega)]
  ·rw[if_neg e];exact⟨rfl,λhk=>sw _ hk (a7c s.r2 s.r4 k h)⟩
 ·rw[ci i gi];refine⟨gi.2.1,?_,rfl,rfl⟩;have:=gi.1;simp only [eU,List.length_set]
  split <;> omega
 ·rw[ci i gi];exact⟨rfl,λe=>sw _ e (a1u s.r2 s.r4 i p gi hp).1⟩
 ·rw[ci i gi];exact⟨rfl,λe=>sw _ e (a1u s.r2 s.r4 i p gi hp).2⟩
 ·have h1':=gj.2.1;have hl:j<x.A.length:=by have:=gj.1;simpa [eU] using this
  by_cases e:j=f
  ·rw[e,cf] at h1';simp [mvC] at h1'
  ·by_cases b:j=t
   ·exact⟨f,⟨hf,h1,nd f⟩,by rw[if_pos rfl];exact b⟩
   ·rw[co j e b] at h1';exact⟨j,⟨hl,h1',nd j⟩,by rw[if_neg e]⟩
theorem Snd.live4m(s:Snd x)(hp:x.E=4)(t f:Nat)(htf:t<f)(hf:f<x.A.length)(h0:(x.c t).st=0)(hlow:∀k,k<t->(x.c k).st≠0)(h1:(x.c f).st=1)(l:zL x r):zL (eU x t f) r:=by
 have o:=s.o4m hp t f htf hf h0 h1;have sy:=s.mv hp t f htf hf h0 hlow h1;have hc:=c0y (x:=x) t f htf hf;obtain⟨_,p,hp',rfl⟩ | ⟨no,_⟩:=l
 ·have pt:p t=false:=by
   cases e:p t
   ·rfl
   ·have:=(uY.good s.r2 s.r4 ((hp' t).1 e)).2.1;omega
  refine .inl ⟨sy.ok,λj=>if j=t then p f else if j=f then false else p j,λj=>?_,?_⟩
  ·show(if j=t then p f else if j=f then false else p j)=true↔_;constructor
   ·intro h;by_cases a:j=t
    ·rw[if_pos a] at h;have:uY (eU x t f) (if f=f then t else f):=o.to s ((hp' f).1 h);rw[if_pos rfl] at this;rw[a];exact this
    ·rw[if_neg a] at h;by_cases b:j=f
     ·rw[if_pos b] at h;cases h
     ·rw[if_neg b] at h;have:uY (eU x t f) (if j=f then t else j):=o.to s ((hp' j).1 h);rw[if_neg b] at this;exact this
   ·intro h;obtain⟨i,ri,e⟩:=o.from s sy h;have e:j=if i=f then t else i:=e
    have pi:=(hp' i).2 ri;by_cases b:i=f
    ·rw[if_pos b] at e;rw[if_pos e,<-b];exact pi
    ·rw[if_neg b] at e;subst e;rw[if_neg (λa=>by rw[a,pt] at pi;cases pi),if_neg b];exact pi
  ·rw[b2f,b2f];have hl:(eU x t f).A.length=x.A.length:=by simp [eU]
   rw[hl]
   have sw:=c2w (F:=λi=>if p i then 1+(x.c i).F.length else 0) (G:=λi=>if (if i=t then p f else if i=f then false else p i)=true then 1+((eU x t f).c i).F.length else 0) t f (by omega) (λi a b=>by simp only [hc,if_neg a,if_neg b]) (by
    have ne:¬t=f:=by omega
    simp only [hc,if_true,if_neg ne]) (by
    have ne:¬f=t:=by omega
    simp [pt,ne]) x.A.length
   have ne:¬f=t:=by omega
   have ht:t<x.A.length:=by omega
   simp only [if_pos hf,if_pos ht,pt] at sw;simp [ne] at sw;have ct:(eU x t f).c t=x.c f:=by rw[hc,if_neg (by omega),if_pos rfl]
   rw[ct] at sw;simp at sw ⊢;omega
 ·exact absurd s.ok no
def qX(x:Hp)(y:Wd):Wd:=if y.k=2/\(x.c y.a.toNat).st=2 then ⟨2,0,(x.c y.a.toNat).to⟩ else y
end Go.Proofs.YtddkhnclmeikfaaGreat
