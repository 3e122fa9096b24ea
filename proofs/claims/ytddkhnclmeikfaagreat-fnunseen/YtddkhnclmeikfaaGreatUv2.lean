import Derived.Test.YtddkhnclmeikfaaGreatUv1
namespace Go.Proofs.YtddkhnclmeikfaaGreat
open Go.RowKit
theorem d3g{φ:Nat->Nat}{O:List Nat}{o:Option Nat}(h:∀i,i∈O->∀j,o=some j->φ i = φ j->i=j):ad (O.map φ) (o.map φ)=(ad O o).map φ:=by
 cases o with
 | none=>rfl
 | some j=>
  show(if φ j∈O.map φ then O.map φ else O.map φ ++ [φ j])=(if j∈O then O else O++[j]).map φ;by_cases e:j∈O
  ·rw[if_pos e,if_pos (List.mem_map_of_mem e)]
  ·rw[if_neg e,if_neg (λz=>by
    obtain⟨i,a,q⟩:=List.mem_map.1 z;exact e (h i a j rfl q ▸ a))]
   simp
theorem b1g{φ:Nat->Nat}{P:Nat->Prop}{α β:Type}(f:List Nat->α->List Nat)(g:List Nat->β->List Nat):∀(A:List α) (B:List β),B.length=A.length->(∀k (ha:k<A.length) (hb:k<B.length) (O:List Nat),(∀i,i∈O->P i)->g (O.map φ) B[k]=(f O A[k]).map φ/\∀i,i∈f O A[k]->P i)->∀O:List Nat,(∀i,i∈O->P i)->B.foldl g (O.map φ)=(A.foldl f O).map φ/\∀i,i∈A.foldl f O->P i
 | [],[],_,_,O,hO=>⟨rfl,hO⟩
 | [],_::_,h,_,_,_=>by simp at h
 | _::_,[],h,_,_,_=>by simp at h
 | a::A,b::B,h,s,O,hO=>by
  obtain⟨e,q⟩:=s 0 (by simp) (by simp) O hO;have e:g (O.map φ) b=(f O a).map φ:=e;show B.foldl g (g (O.map φ) b)=_/\_;rw[e];exact b1g f g A B (by simpa using h) (λk ha hb O hO=>s (k+1) (by simpa using ha) (by simpa using hb) O hO) (f O a) q
theorem ovr_wq{x y:Hp}{φ:Nat->Nat}{u v:Wd}(h:v.k=u.k/\(u.k=2->tgt y v = φ (tgt x u))):wq y v=(wq x u).map φ:=by
 unfold wq;rw[h.1]
 split
 ·rename_i e;rw[h.2 e];rfl
 ·rfl
section
variable {x y : Hp} {φ : Nat → Nat}
theorem Ovr.inj(o:Ovr x y φ)(s:Snd x){O:List Nat}(b:∀i,i∈O->uZ x i){j:Nat}(c:qD x j)(i:Nat)(a:i∈O)(e:φ i = φ j):i=j:=o.ij i j (uZ.good s.r2 s.r4 (b i a)) c e
theorem Ovr.ad1(o:Ovr x y φ)(s:Snd x){O:List Nat}(c:∀i,i∈O->uZ x i){u v:Wd}(h:v.k=u.k/\(u.k=2->tgt y v = φ (tgt x u)))(r:u.k=2->uZ x (tgt x u)):ad (O.map φ) (wq y v)=(ad O (wq x u)).map φ/\∀i,i∈ad O (wq x u)->uZ x i:=by
 rw[ovr_wq h];refine⟨d3g (λi b j e q=>?_),λi b=>?_⟩
 ·obtain⟨k,rfl⟩:=b4a e;exact o.inj s c (uZ.good s.r2 s.r4 (r k)) i b q
 ·rcases b5b b with a | a
  ·exact c i a
  ·obtain⟨k,rfl⟩:=b4a a;exact r k
theorem Ovr.isW(o:Ovr x y φ)(s:Snd x)(t:Snd y){N:List Nat}(h:IsW x N):IsW y (N.map φ) where
 m:=λi=>by
  rw[List.mem_map];constructor
  ·rintro⟨j,d,rfl⟩;obtain⟨a,b⟩:=(h.m j).1 d;have g:=a0q s.r4 j a (a0a s.r2 j a b) b;have r:=o.g j g;exact⟨r.2.1,by unfold hQ at b ⊢;rw[r.2.2.1];exact b⟩
  ·rintro⟨a,b⟩;obtain⟨j,g,rfl⟩:=o.b i (a0q t.r4 i a (a0a t.r2 i a b) b);exact⟨j,(h.m j).2 ⟨g.1,by unfold hQ at b ⊢;rw[<-(o.g j g).2.2.1];exact b⟩,rfl⟩
 nd:=by
  have f:∀i,i∈N->qD x i:=λi c=>by
   obtain⟨a,b⟩:=(h.m i).1 c;exact a0q s.r4 i a (a0a s.r2 i a b) b
  refine List.pairwise_map.2 (h.nd.imp_of_mem (λ{a b} p k n e=>n (o.ij a b (f a p) (f b k) e)))
 s:=λi j c d l=>by
  have f:∀i,i∈N->qD x i:=λi c=>by
   obtain⟨a,b⟩:=(h.m i).1 c;exact a0q s.r4 i a (a0a s.r2 i a b) b
  rw[List.length_map] at c d;rw[List.getElem_map,List.getElem_map,(o.kb _ (f _ (List.getElem_mem c))).2,(o.kb _ (f _ (List.getElem_mem d))).2];exact h.s i j c d l
theorem ovr_prO(o:Ovr x y φ)(s:Snd x){O:List Nat}(d:∀i,i∈O->uZ x i){j:Nat}(b:uZ x j):prO y (φ j) (y.c (φ j)).F.length (O.map φ)=(prO x j (x.c j).F.length O).map φ/\∀i,i∈prO x j (x.c j).F.length O->uZ x i:=by
 have g:=uZ.good s.r2 s.r4 b;have r:=(o.g j g).2.2.2;unfold prO;rw[List.take_length,List.take_length];refine b1g _ _ _ _ r (λk a n O d=>?_) O d;have h:(x.c j).F[k]=(x.c j).p k:=by simp [Cl.p,List.getD_eq_getElem?_getD,a]
 have t:(y.c (φ j)).F[k]=(y.c (φ j)).p k:=by simp [Cl.p,List.getD_eq_getElem?_getD,n]
 rw[h,t];obtain⟨f,l⟩:=o.ad1 s d (o.ky j k g a) (λe=>uZ.key j k b a e);obtain⟨q,m⟩:=o.ad1 s l (o.vl j k g a) (λe=>uZ.val j k b a e);rw[f,q];exact⟨rfl,m⟩
theorem c6p(o:Ovr x y φ)(s:Snd x):∀(f c:Nat) (O:List Nat),(∀i,i∈O->uZ x i)->clO y f c (O.map φ)=(clO x f c O).map φ
 | 0,_,_,_=>rfl
 | f+1,c,O,hO=>by
  unfold clO;by_cases l:c<O.length
  ·have l':c<(O.map φ).length:=by simpa using l
   rw[dif_pos l,dif_pos l',List.getElem_map];obtain⟨e,q⟩:=ovr_prO o s hO (hO _ (List.getElem_mem l));rw[e];exact c6p o s f (c+1) _ q
  ·rw[dif_neg l,dif_neg (by simpa using l)]
end
theorem b6s{x:Hp}{c:Nat}{O:List Nat}(l:¬c<O.length):∀f,clO x f c O=O
 | 0=>rfl
 | f+1=>by unfold clO;rw[dif_neg l]
theorem b6t{x:Hp}(hr:∀i,uZ x i->i<x.A.length):∀(f g c:Nat) (O:List Nat),(∀i,i∈O->uZ x i)->O.Nodup->x.A.length+1<=f+c->x.A.length+1<=g+c->clO x f c O=clO x g c O
 | 0,g,c,O,hO,nd,h1,h2=>by
  have ln:=a6b nd (λi hi=>hr i (hO i hi));show O=_;exact(b6s (O:=O) (by omega) g).symm
 | f+1,g,c,O,hO,nd,h1,h2=>by
  have ln:=a6b nd (λi hi=>hr i (hO i hi));by_cases l:c<O.length
  ·obtain⟨g,rfl⟩:∃k,g=k+1:=⟨g-1,by omega⟩;unfold clO;rw[dif_pos l,dif_pos l];obtain⟨a,b,_⟩:=c4a (hO _ (List.getElem_mem l)) hO nd (x.c O[c]).F.length (Nat.le_refl _);exact b6t hr f g (c+1) _ a b (by omega) (by omega)
  ·rw[b6s l,b6s l]
theorem d3h{x y:Hp}{φ:Nat->Nat}(o:Ovr x y φ)(s:Snd x)(t:Snd y){N:List Nat}(h:IsW x N):yC y (N.map φ)=(yC x N).map φ:=by
 have B:∀i,uZ x i->i<x.A.length:=λi c=>(c.good s.r2 s.r4).1
 have p:∀i,uZ y i->i<y.A.length:=λi c=>(c.good t.r2 t.r4).1
 have l:a6a y y.B.length=(a6a x x.B.length).map φ/\∀i,i∈a6a x x.B.length->uZ x i:=by
  unfold a6a;rw[List.take_length,List.take_length];exact b1g (φ:=φ) (P:=uZ x) _ _ _ _ o.rl (λk d g O f=>o.ad1 s f (o.rg k d g) (λe=>uZ.reg k d e)) [] (by simp)
 have n:tE y (N.map φ) (N.map φ).length=(tE x N N.length).map φ/\∀i,i∈tE x N N.length->uZ x i:=by
  unfold tE;rw[List.take_length,List.take_length,l.1];refine b1g (φ:=φ) (P:=uZ x) _ _ _ _ (by simp) (λk d g O f=>?_) _ l.2;obtain⟨a,b⟩:=(h.m _).1 (List.getElem_mem d);have u:=a0a s.r2 _ a b;have r:=uZ.U _ a u b;rw[List.getElem_map];refine⟨d3g (o:=some N[k]) (λi c j e q=>?_),λi c=>?_⟩
  ·cases e;exact o.inj s f (a0q s.r4 _ a u b) i c q
  ·rcases b5b c with z | z
   ·exact f i z
   ·cases z;exact r
 obtain⟨w,v,_⟩:=b0j s.r2 h N.length (Nat.le_refl _);obtain⟨A,C,_⟩:=b0j t.r2 (o.isW s t h) (N.map φ).length (Nat.le_refl _);unfold yC;rw[b6t B (x.A.length+1) (x.A.length+y.A.length+1) 0 _ w v (by omega) (by omega),b6t p (y.A.length+1) (x.A.length+y.A.length+1) 0 _ A C (by omega) (by omega),n.1];exact c6p o s _ 0 _ n.2
theorem b2w{φ:Nat->Nat}:∀(O:List Nat) (j:Nat),(∀i,i∈O->φ i = φ j->i=j)->(O.map φ).idxOf (φ j)=O.idxOf j
 | [],_,_=>rfl
 | a::O,j,h=>by
  rw[List.map_cons,List.idxOf_cons,List.idxOf_cons,b2w O j (λi hi=>h i (by simp [hi]))];by_cases e:a=j
  ·subst e;rw[beq_self_eq_true,beq_self_eq_true]
  ·have:φ a≠φ j:=λq=>e (h a (by simp) q)
   rw[beq_false_of_ne this,beq_false_of_ne e]
theorem c5o{x y:Hp}{φ:Nat->Nat}(o:Ovr x y φ)(s:Snd x){O:List Nat}(b:∀i,i∈O->uZ x i){u v:Wd}(h:v.k=u.k/\(u.k=2->tgt y v = φ (tgt x u)))(n:u.k≠2->v=u)(g:u.k=2->qD x (tgt x u)):nw y (O.map φ) v=nw x O u:=by
 unfold nw;rw[h.1]
 split
 ·rename_i e;rw[h.2 e,b2w O _ (λi a q=>o.inj s b (g e) i a q)]
 ·rename_i e;exact n e
theorem Ovr.shape{x y:Hp}{φ:Nat->Nat}(o:Ovr x y φ)(s:Snd x)(t:Snd y){N:List Nat}(h:IsW x N):gR y (N.map φ)=gR x N/\gL y (N.map φ)=gL x N:=by
 have d:=b5c s.r2 s.r4 h
 have l:∀i,i∈N->qD x i:=λi f=>by
  obtain⟨a,b⟩:=(h.m i).1 f;exact a0q s.r4 i a (a0a s.r2 i a b) b
 unfold gR gL;rw[d3h o s t h];constructor
 ·refine List.ext_getElem (by simp [o.rl]) (λk q n=>?_);have a:k<x.B.length:=by simpa using n
  have b:k<y.B.length:=by simpa using q
  rw[List.getElem_map,List.getElem_map];exact c5o o s d.r (o.rg k a b) (o.rn k a b) (λe=>(a2b s.r2 s.r4 k a e).2.2.2.2)
 ·rw[List.map_map];refine List.map_congr_left (λj B=>?_);have g:=uZ.good s.r2 s.r4 (d.r j B);have r:=o.g j g;show dJ y _ _ (φ j)=dJ x _ _ j;unfold dJ
  have v:rkJ (N.map φ) (N.map φ).length (φ j)=rkJ N N.length j:=by
   unfold rkJ;rw[b2w N j (λi f e=>o.ij i j (l i f) g e),List.length_map]
  have w:(y.c (φ j)).F.map (np y ((yC x N).map φ))=(x.c j).F.map (np x (yC x N)):=by
   refine List.ext_getElem (by simp [r.2.2.2]) (λk q n=>?_);have a:k<(x.c j).F.length:=by simpa using n
   have b:k<(y.c (φ j)).F.length:=by simpa using q
   have A:(x.c j).F[k]=(x.c j).p k:=by simp [Cl.p,List.getD_eq_getElem?_getD,a]
   have z:(y.c (φ j)).F[k]=(y.c (φ j)).p k:=by simp [Cl.p,List.getD_eq_getElem?_getD,b]
   have u:=a0j s.r2 s.r4 j k g a;rw[List.getElem_map,List.getElem_map,A,z];unfold np;rw[c5o o s d.r (o.ky j k g a) (o.pn j k g a).1 (λe=>(u.1 e).2.2.2.2),c5o o s d.r (o.vl j k g a) (o.pn j k g a).2 (λe=>(u.2 e).2.2.2.2)]
  rw[(o.kb j g).1,o.wk j g,r.2.2.1,v,w]
end Go.Proofs.YtddkhnclmeikfaaGreat
