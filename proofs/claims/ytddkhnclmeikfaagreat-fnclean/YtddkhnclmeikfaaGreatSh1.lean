import Derived.Test.YtddkhnclmeikfaaGreatScm
namespace Go.Proofs.YtddkhnclmeikfaaGreat
open Go.RowKit
variable{x:Hp}
def Hp0:Hp:=⟨0,0,0,[],[],0,0,0,[],0,0,0,0⟩
theorem eQ.r5(h:eQ x 0):R5 x:=by
 unfold eQ at h;rcases h with h | h | h | h | h | h | h | h | h
 ·have:=h.2;omega
 ·have:=h.2.2;omega
 ·have:=h.2.2.2;omega
 ·have:=h.2.2.2.2;omega
 ·have:=h.2.2.2.2.2;omega
 ·have:=h.2.2.2.2.2.2;omega
 ·have:=h.2.2.2.2.2.2.2;omega
 ·have:=h.2.2.2.2.2.2.2.2;omega
 ·exact h.2.2.2.2.1
theorem a9d(x:Hp):∀(k:Nat) (L:List Nat),k<=x.A.length->L.Nodup->(∀i,i∈L->i<k/\(x.c i).st=1)->L.length<=dL (x.A.take k)
 | 0,L,_,_,h=>by
  cases L with
  | nil=>simp
  | cons a L=>have:=(h a (List.mem_cons_self ..)).1;omega
 | k+1,L,hk,hn,h=>by
  have e:dL (x.A.take (k+1))=dL (x.A.take k)+hE (x.c k):=by
   rw[a5f x.A k (by omega),Hp.c_eq x k (by omega)]
  by_cases hm:k∈L
  ·have h1:=a9d x k (L.erase k) (by omega) (hn.erase k) (λi hi=>by
    have h2:=h i (List.mem_of_mem_erase hi);have h3:i≠k:=λe=>by rw[e] at hi;exact(List.Nodup.not_mem_erase hn) hi
    exact⟨by omega,h2.2⟩)
   rw[List.length_erase_of_mem hm] at h1;have h4:hE (x.c k)≥1:=by unfold hE;rw[if_pos (h k hm).2];omega
   have h5:0<L.length:=List.length_pos_of_mem hm;omega
  ·have h1:=a9d x k L (by omega) hn (λi hi=>by
    have h2:=h i hi;have h3:i≠k:=λe=>hm (by rw[<-e];exact hi)
    exact⟨by omega,h2.2⟩)
   omega
theorem b2e(r5:R5 x):x.D.Nodup:=by
 rw[List.nodup_iff_count];intro g;by_cases hg:g∈x.D
 ·obtain⟨h0,h1⟩:=r5.2.2 g hg;have e:((g.toNat:Nat):Int)=g:=by omega
  have hc:=r5.2.1 g.toNat (by omega);by_cases hcol:(x.c g.toNat).J=1
  ·have:=hc.1 hcol;unfold cnt at this;rw[e] at this;omega
  ·have:=hc.2.1 hcol;unfold cnt at this;rw[e] at this;omega
 ·rw[List.count_eq_zero_of_not_mem hg];omega
theorem b0b(r2:R2 x)(r5:R5 x)(g:Int)(hg:g∈x.D):(x.c g.toNat).J=1/\(x.c g.toNat).st=1:=by
 obtain⟨h0,h1⟩:=r5.2.2 g hg;have e:((g.toNat:Nat):Int)=g:=by omega
 have hc:=r5.2.1 g.toNat (by omega)
 have hcol:(x.c g.toNat).J=1:=by
  rcases Int.decEq (x.c g.toNat).J 1 with hn | hy
  ·have:=hc.2.1 hn;unfold cnt at this;rw[e] at this;exact absurd hg (List.count_eq_zero.1 this)
  ·exact hy
 refine⟨hcol,?_⟩;rcases r2.1 g.toNat (by omega) with c | c | c
 ·have:=c.2.1.2.2.2.2.1;omega
 ·have:=c.2.1.2.2.2.2.1;omega
 ·exact c.1
theorem a4n(ok:eQ x 0):x.D.length<=4000/\∀i,i<x.A.length->eJ x i=true->x.D.length<4000:=by
 obtain⟨r1,r2,r3,_⟩:=ok.all;have r5:=ok.r5;have hu:(dL x.A:Int)<=4000:=by have:=r3.1;have:=r3.2;have:=r1.M;omega
 have hn:(x.D.map Int.toNat).Nodup:=by
  unfold List.Nodup;rw[List.pairwise_map];exact List.Pairwise.imp_of_mem (λha hb hne e=>hne (by have:=(r5.2.2 _ ha).1;have:=(r5.2.2 _ hb).1;omega)) (b2e r5)
 have hm:∀i,i∈x.D.map Int.toNat->i<x.A.length/\(x.c i).st=1/\(x.c i).J=1:=λi hi=>by
  obtain⟨g,hg,rfl⟩:=List.mem_map.1 hi;have h1:=r5.2.2 g hg;have h2:=b0b r2 r5 g hg;exact⟨by omega,h2.2,h2.1⟩
 have h1:=a9d x x.A.length (x.D.map Int.toNat) (Nat.le_refl _) hn (λi hi=>⟨(hm i hi).1,(hm i hi).2.1⟩);rw[List.take_length,List.length_map] at h1;refine⟨by omega,λi hi hb=>?_⟩;have hb2:(x.c i).st=1/\(x.c i).J=0:=by simp [eJ,whB] at hb;exact hb.2
 have h2:=a9d x x.A.length (i::x.D.map Int.toNat) (Nat.le_refl _) (List.nodup_cons.2 ⟨λh=>by have:=(hm i h).2.2;omega,hn⟩) (λj hj=>by
  rcases List.mem_cons.1 hj with e | e
  ·rw[e];exact⟨hi,hb2.1⟩
  ·exact⟨(hm j e).1,(hm j e).2.1⟩)
 rw[List.take_length,List.length_cons,List.length_map] at h2;omega
end Go.Proofs.YtddkhnclmeikfaaGreat
