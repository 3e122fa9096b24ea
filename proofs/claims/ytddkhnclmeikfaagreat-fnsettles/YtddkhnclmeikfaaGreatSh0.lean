import Derived.Test.YtddkhnclmeikfaaGreatL2d
import Derived.Test.YtddkhnclmeikfaaGreatSpecH2
import Derived.Deep.DeepCutAuto
namespace Go.Proofs.YtddkhnclmeikfaaGreat
open Go.RowKit
attribute [local go_sem ↓] Go.wp_at_zero Go.wp_at_succ
variable{x:Hp}{w w':World}{ar ac ag:Option Addr}{kr kc kg B g br bc:Nat}{pb pk role:Nat->Nat}{pa:Nat->Option Addr}
def Hp0:Hp:=⟨0,0,0,[],[],0,0,0,[],0,0,0,0⟩
theorem eU.r5(h:eU x 0):R5 x:=by
 unfold eU at h;rcases h with h | h | h | h | h | h | h | h | h
 ·have:=h.2;omega
 ·have:=h.2.2;omega
 ·have:=h.2.2.2;omega
 ·have:=h.2.2.2.2;omega
 ·have:=h.2.2.2.2.2;omega
 ·have:=h.2.2.2.2.2.2;omega
 ·have:=h.2.2.2.2.2.2.2;omega
 ·have:=h.2.2.2.2.2.2.2.2;omega
 ·exact h.2.2.2.2.1
theorem a9d(x:Hp):∀(k:Nat) (L:List Nat),k<=x.cells.length->L.Nodup->(∀i,i∈L->i<k/\(x.c i).st=1)->L.length<=dQ (x.cells.take k)
 | 0,L,_,_,h=>by
  cases L with
  | nil=>simp
  | cons a L=>have:=(h a (List.mem_cons_self ..)).1;omega
 | k+1,L,hk,hn,h=>by
  have e:dQ (x.cells.take (k+1))=dQ (x.cells.take k)+cH (x.c k):=by
   rw[a5q x.cells k (by omega),Hp.c_eq x k (by omega)]
  by_cases hm:k∈L
  ·have h1:=a9d x k (L.erase k) (by omega) (hn.erase k) (λi hi=>by
    have h2:=h i (List.mem_of_mem_erase hi);have h3:i≠k:=λe=>by rw[e] at hi;exact(List.Nodup.not_mem_erase hn) hi
    exact⟨by omega,h2.2⟩)
   rw[List.length_erase_of_mem hm] at h1;have h4:cH (x.c k)≥1:=by unfold cH;rw[if_pos (h k hm).2];omega
   have h5:0<L.length:=List.length_pos_of_mem hm;omega
  ·have h1:=a9d x k L (by omega) hn (λi hi=>by
    have h2:=h i hi;have h3:i≠k:=λe=>hm (by rw[<-e];exact hi)
    exact⟨by omega,h2.2⟩)
   omega
theorem b2r(r5:R5 x):x.gray.Nodup:=by
 rw[List.nodup_iff_count];intro g;by_cases hg:g∈x.gray
 ·obtain⟨h0,h1⟩:=r5.2.2 g hg;have e:((g.toNat:Nat):Int)=g:=by omega
  have hc:=r5.2.1 g.toNat (by omega);by_cases hcol:(x.c g.toNat).color=1
  ·have:=hc.1 hcol;unfold cnt at this;rw[e] at this;omega
  ·have:=hc.2.1 hcol;unfold cnt at this;rw[e] at this;omega
 ·rw[List.count_eq_zero_of_not_mem hg];omega
theorem b0k(r2:R2 x)(r5:R5 x)(g:Int)(hg:g∈x.gray):(x.c g.toNat).color=1/\(x.c g.toNat).st=1:=by
 obtain⟨h0,h1⟩:=r5.2.2 g hg;have e:((g.toNat:Nat):Int)=g:=by omega
 have hc:=r5.2.1 g.toNat (by omega)
 have hcol:(x.c g.toNat).color=1:=by
  rcases Int.decEq (x.c g.toNat).color 1 with hn | hy
  ·have:=hc.2.1 hn;unfold cnt at this;rw[e] at this;exact absurd hg (List.count_eq_zero.1 this)
  ·exact hy
 refine⟨hcol,?_⟩;rcases r2.1 g.toNat (by omega) with c | c | c
 ·have:=c.2.1.2.2.2.2.1;omega
 ·have:=c.2.1.2.2.2.2.1;omega
 ·exact c.1
theorem b7w(ok:eU x 0):x.gray.length<=4000/\∀i,i<x.cells.length->qD x i=true->x.gray.length<4000:=by
 obtain⟨r1,r2,r3,_⟩:=ok.all;have r5:=ok.r5;have hu:(dQ x.cells:Int)<=4000:=by have:=r3.1;have:=r3.2;have:=r1.room;omega
 have hn:(x.gray.map Int.toNat).Nodup:=by
  unfold List.Nodup;rw[List.pairwise_map];exact List.Pairwise.imp_of_mem (λha hb hne e=>hne (by have:=(r5.2.2 _ ha).1;have:=(r5.2.2 _ hb).1;omega)) (b2r r5)
 have hm:∀i,i∈x.gray.map Int.toNat->i<x.cells.length/\(x.c i).st=1/\(x.c i).color=1:=λi hi=>by
  obtain⟨g,hg,rfl⟩:=List.mem_map.1 hi;have h1:=r5.2.2 g hg;have h2:=b0k r2 r5 g hg;exact⟨by omega,h2.2,h2.1⟩
 have h1:=a9d x x.cells.length (x.gray.map Int.toNat) (Nat.le_refl _) hn (λi hi=>⟨(hm i hi).1,(hm i hi).2.1⟩);rw[List.take_length,List.length_map] at h1;refine⟨by omega,λi hi hb=>?_⟩;have hb2:(x.c i).st=1/\(x.c i).color=0:=by simp [qD,whB] at hb;exact hb.2
 have h2:=a9d x x.cells.length (i::x.gray.map Int.toNat) (Nat.le_refl _) (List.nodup_cons.2 ⟨λh=>by have:=(hm i h).2.2;omega,hn⟩) (λj hj=>by
  rcases List.mem_cons.1 hj with e | e
  ·rw[e];exact⟨hi,hb2.1⟩
  ·exact⟨(hm j e).1,(hm j e).2.1⟩)
 rw[List.take_length,List.length_cons,List.length_map] at h2;omega
def HRd(w:World)(y:Hp)(ar:Option Addr)(kr:Nat)(ac:Option Addr)(kc:Nat)(ag:Option Addr)(kg:Nat):Prop:=SlW w (.slice ar y.regs.length kr) y.regs/\SlC w (.slice ac y.cells.length kc) y.cells/\SlI w (.slice ag y.gray.length kg) y.gray
theorem HRd.ext{y:Hp}(h:HRd w y ar kr ac kc ag kg)(e:Ext w w'):HRd w' y ar kr ac kc ag kg:=⟨SlW.ext e h.1,SlC.ext e h.2.1,SlI.ext e h.2.2⟩
theorem HRd.zero(w:World):HRd w Hp0 none 0 none 0 none 0:=⟨yN.nil,yN.nil,yN.nil⟩
theorem GAt.low[Inhabited uZ](hz:∀q,(default:uZ).z q=none){S:Nat->Prop}{vg:Value}(h:GAt B w g x ar kr ac kc vg br bc pb pa pk role)(o:uX S w w')(hS:∀q,S q->q<B):GAt B w' g x ar kr ac kc vg br bc pb pa pk role:=
 ⟨h.bx.only o (λs=>by have:=hS _ s;have:=h.lo;omega),cU h.nf (o.block g h.nf.1 (λs=>by have:=hS _ s;have:=h.lo;omega)) o.size,h.lo,h.ha,h.hc,h.rw.only o (λhl s=>by have:=hS _ s;have:=(h.rw.nr hl).2;omega) (λhl s=>by have:=hS _ s;have:=(h.rw.nc hl).2;omega) (λq hq hl s=>by have:=hS _ s;have:=(h.rw.pl q hq hl).2.2.2;omega),h.gr.block (λq hq=>o.block q (h.gr.lt q hq).2 (λs=>by have:=hS _ s;have:=(h.gr.lt q hq).1;omega)),h.sp,h.kl,λq o h=>(by rw[hz q] at h;cases h),λhk=>(h.cc hk).block rfl (o.block bc (h.cc hk).nf.1 (λs=>by have:=hS _ s;have:=(h.cc hk).lo;omega)) o.size⟩
theorem GAt.rd[Inhabited uZ](h:GAt B w g x ar kr ac kc (.slice ag x.gray.length kg) br bc pb pa pk role)(n1:x.regs.length<=1048576)(n2:x.cells.length<=1048576)(n3:∀q,q<x.cells.length->(x.c q).prs.length<=200)(n4:x.gray.length<=1048576):HRd w x ar kr ac kc ag kg:=by
 refine⟨h.rw.slW kr h.ha n1,h.rw.slC kc h.hc n2 n3,⟨ag,kg,rfl,by omega,λi hi=>?_⟩⟩;obtain⟨gb,go,e,c,_⟩:=h.gr.at i hi;exact⟨gb,go,e,by rw[Nat.mul_one];exact c⟩
end Go.Proofs.YtddkhnclmeikfaaGreat
