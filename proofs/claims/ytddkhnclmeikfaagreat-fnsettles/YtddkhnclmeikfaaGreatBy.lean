import Derived.Test.YtddkhnclmeikfaaGreatDn2
import Derived.Test.YtddkhnclmeikfaaGreatBc
import Derived.Laws.Bits64b
set_option maxRecDepth 100000
set_option maxHeartbeats 4000000
namespace Go.Proofs.YtddkhnclmeikfaaGreat
open Go.RowKit
attribute [local go_sem ↓] Go.wp_at_zero Go.wp_at_succ
variable{x:Hp}
theorem b8q(x:Hp)(H:Nat->Bool):(dD x H).used=x.used-eC x H x.cells.length:=by
 unfold dD;rw[(a8q x _ H _).2.1,a5v]
theorem a8r(x:Hp)(H:Nat->Bool):(dD x H).cells.length=x.cells.length:=by
 unfold dD;rw[a2u,a1p]
theorem a9r(x:Hp)(H:Nat->Bool)(q:Nat)(hq:q<x.cells.length):(dD x H).c q=b3c x H q:=by
 rw[<-a5b,a7b x H _ (Nat.le_refl _),if_pos hq]
theorem b8r(x:Hp)(H:Nat->Bool):(dD x H).regs=x.regs:=by
 rw[<-a5b];exact(a2v x H _).2.2.1
theorem a5w(x:Hp)(H:Nat->Bool)(y:Wd):tgt (dD x H) y=tgt x y:=by
 have h:∀q,((dD x H).c q).st=(x.c q).st/\((dD x H).c q).to=(x.c q).to:=λq=>by
  rw[<-a5b];exact c3j x H _ (Nat.le_refl _) q
 unfold tgt tD;rw[(h _).1,(h _).2]
theorem b5q{x:Hp}{H:Nat->Bool}:∀{k:Nat},tQ x H k=0->∀i,i<k->yU x H i=false
 | 0,_,i,hi=>by omega
 | k+1,h,i,hi=>by
  unfold tQ at h;cases e:yU x H k
  ·rw[e] at h;by_cases e2:i=k
   ·rw[e2];exact e
   ·exact b5q (by simpa using h) i (by omega)
  ·rw[e] at h;simp at h
theorem dK.before{H:Nat->Bool}(hH:∀i,H i=true↔dK x i)(hlt:∀i,H i=true->i<x.cells.length)(hd:tQ x H x.cells.length=0){i:Nat}(h:dK (dD x H) i):H i=true:=by
 have hc:∀j,H j=true->(dD x H).c j=yL x H (x.c j):=λj hj=>by rw[a9r x H j (hlt j hj)];unfold b3c;rw[if_pos hj]
 have hp:∀j p,H j=true->p<((dD x H).c j).prs.length->∃p',p'<(x.c j).prs.length/\((dD x H).c j).p p=(x.c j).p p':=λj p hj h=>by
  rw[hc j hj] at h ⊢
  have hm:(yL x H (x.c j)).p p∈(x.c j).prs:=by
   have h1:(yL x H (x.c j)).p p∈(yL x H (x.c j)).prs:=by rw[<-Cl.p_eq _ p h];exact List.getElem_mem h
   exact(List.mem_filter.1 h1).1
  obtain⟨p',h2,h3⟩:=List.getElem_of_mem hm;exact⟨p',h2,by rw[<-h3,Cl.p_eq _ p' h2]⟩
 have hw:∀j,H j=true->((dD x H).c j).weak=(x.c j).weak:=λj hj=>by rw[hc j hj];rfl
 refine h (λj=>H j=true) (λk hk e=>?_) (λi hi e=>?_) (λj p hj hpp sk e=>?_) (λj p hj hpp sv hkey e=>?_)
 ·have hr:=b8r x H;have hk2:k<x.regs.length:=by rw[<-hr];exact hk
  have e3:(dD x H).regs[k]=x.regs[k]:=by simp [hr]
  rw[a5w,e3,hH];exact dK.reg k hk2 (by rw[<-e3];exact e)
 ·rw[a8r] at hi;rw[a9r x H i hi] at e;unfold b3c at e
  split at e
  ·assumption
  ·split at e
   ·rename_i h1 h2;have:=b5q hd i hi;simp [yU,h1,h2] at this
   ·rw[hH];exact dK.due i hi e
 ·obtain⟨p',q1,q2⟩:=hp j p hj hpp;rw[q2] at e ⊢;rw[a5w,hH];exact dK.key j p' ((hH j).1 hj) q1 (by unfold SK at sk ⊢;rw[hw j hj] at sk;exact sk) e
 ·obtain⟨p',q1,q2⟩:=hp j p hj hpp;rw[q2] at e hkey ⊢;rw[a5w] at hkey;rw[a5w,hH];exact dK.val j p' ((hH j).1 hj) q1 (by unfold SV at sv ⊢;rw[hw j hj] at sv;exact sv) (λk2=>(hH _).1 (hkey k2)) e
theorem b3m{x:Hp}{H p:Nat->Bool}(hp:∀i,p i=true->H i=true):∀k,k<=x.cells.length->qY (dD x H) p k+eC x H k<=qY x H k
 | 0,_=>by simp [qY,eC]
 | k+1,hk=>by
  have h1:=b3m (x:=x) (H:=H) hp k (by omega);have hc:=a9r x H k (by omega);unfold qY eC;rw[hc];unfold b3c;cases e:H k
  ·have:¬p k=true:=λh=>by have:=hp k h;rw[e] at this;cases this
   simp [this];omega
  ·have h2:=a1z x H (x.c k) (x.c k).prs;simp only [if_true];have h3:(yL x H (x.c k)).prs.length=(yX x H (x.c k) (x.c k).prs).length:=rfl;rw[h3]
   split <;> omega
def muS(x:Hp):Nat->Nat
 | 0=>0
 | k+1=>muS x k+((x.c k).prs.length+if (x.c k).last=1 then 1 else 0)
theorem b3n(x:Hp)(H:Nat->Bool):∀k,k<=x.cells.length->muS (dD x H) k+eC x H k+tQ x H k=muS x k
 | 0,_=>by simp [muS,eC,tQ]
 | k+1,hk=>by
  have h1:=b3n x H k (by omega);have hc:=a9r x H k (by omega);unfold muS eC tQ;rw[hc];unfold b3c yU;have h2:=a1z x H (x.c k) (x.c k).prs;have h3:(yL x H (x.c k)).prs.length=(yX x H (x.c k) (x.c k).prs).length:=rfl;have h4:(yL x H (x.c k)).last=(x.c k).last:=rfl;cases e:H k
  ·by_cases l:(x.c k).last=1
   ·have h5:(b1y (x.c k)).prs=(x.c k).prs:=rfl;have h6:(b1y (x.c k)).last=2:=rfl;simp [l,h5,h6];omega
   ·simp [l];omega
  ·simp only [if_true,h3,h4,Bool.not_true,Bool.false_and];simp;omega
theorem b5r{x:Hp}(s:Snd x):∀k,k<=x.cells.length->muS x k<=dQ (x.cells.take k)
 | 0,_=>by simp [muS]
 | k+1,hk=>by
  have h1:=b5r s k (by omega)
  have e:x.cells.take (k+1)=x.cells.take k++[x.c k]:=by
   rw[List.take_succ_eq_append_getElem (by omega),Hp.c_eq x k (by omega)]
  unfold muS;rw[e];unfold dQ at h1 ⊢;rw[List.map_append,List.sum_append];simp only [List.map_cons,List.map_nil,List.sum_cons,List.sum_nil]
  have:(x.c k).prs.length+(if (x.c k).last=1 then 1 else 0)<=cH (x.c k):=by
   unfold cH;rcases s.r2.1 k (by omega) with⟨h,b,_⟩ | ⟨h,b⟩ | ⟨h,_⟩
   ·have:=b.2.2.1;have:=b.2.2.2.2.2;rw[if_neg (by omega)];omega
   ·have:=b.1.2.2.1;have:=b.1.2.2.2.2.2;rw[if_neg (by omega)];omega
   ·rw[if_pos h];split <;> omega
  omega
theorem b8s(s:Snd x):(muS x x.cells.length:Int)<=x.used:=by
 have h:=b5r s _ (Nat.le_refl _);rw[List.take_length] at h;have:=s.r3.1;omega
end Go.Proofs.YtddkhnclmeikfaaGreat
namespace Go.Proofs.YtddkhnclmeikfaaGreat
attribute [local go_sem ↓] Go.wp_at_zero Go.wp_at_succ
variable{x y:Hp}{g:Nat}
theorem held_lt(s:Snd x){i:Nat}(h:dK x i):i<x.cells.length:=by
 have g:=dK.good s.r2 s.r4 h;exact g.1
theorem c2h{r1 r2:Nat}(s:Snd x)(st:b3s x y g 0)(c1:a9x y r1)(c2:a9x x r2):r1+g<=r2/\r2<=201*x.cells.length:=by
 obtain⟨_,H,hH,rfl,rfl,hd⟩ | ⟨no,_⟩:=st
 ·obtain⟨_,p,hp,rfl⟩ | ⟨no,_⟩:=c1
  ·obtain⟨_,q,hq,rfl⟩ | ⟨no,_⟩:=c2
   ·have hlt:∀i,H i=true->i<x.cells.length:=λi h=>held_lt s ((hH i).1 h)
    have h1:=b3m (x:=x) (H:=H) (p:=p) (λi h=>dK.before hH hlt hd.symm ((hp i).1 h)) _ (Nat.le_refl _);rw[a8r];rw[b1p (x:=x) (p:=q) (q:=H) (λi=>by rw[Bool.eq_iff_iff,hq,hH])];exact⟨h1,b3k s.ok.p200 _ (Nat.le_refl _)⟩
   ·exact absurd s.ok no
  ·exact absurd (s.settle H).ok no
 ·exact absurd s.ok no
theorem a0t{d:Nat}(s:Snd x)(st:b3s x y g d):x.used-g=y.used/\(g:Int)<=x.used/\Snd y/\muS y y.cells.length+g+d=muS x x.cells.length:=by
 obtain⟨_,H,hH,rfl,rfl,rfl⟩ | ⟨no,_⟩:=st
 ·have h1:=b3n x H _ (Nat.le_refl _);have h2:=b8s s;refine⟨(b8q x H).symm,by omega,s.settle H,?_⟩;rw[a8r];exact h1
 ·exact absurd s.ok no
theorem c3w(s:Snd x):x.used<=4000:=by
 have:=s.r3.2;have:=s.r1.room;omega
theorem c8y(x:Hp)(k:Nat):∃r,qV x k r:=by
 induction k with
 | zero=>exact⟨-1,.inl ⟨rfl,λi hi=>absurd hi (Nat.not_lt_zero _)⟩⟩
 | succ k ih=>
  obtain⟨r,h⟩:=ih;by_cases e:(x.c k).last=2
  ·rcases h with⟨_,h⟩ | ⟨i,rfl,hi,h2,h3⟩
   ·exact⟨k,.inr ⟨k,rfl,Nat.lt_succ_self k,e,λj hj hl=>by
     by_cases jk:j=k
     ·subst jk;exact Int.le_refl _
     ·exact absurd hl (h j (by omega))⟩⟩
   ·by_cases b:(x.c i).born<=(x.c k).born
    ·exact⟨i,.inr ⟨i,rfl,by omega,h2,λj hj hl=>by
      by_cases jk:j=k
      ·subst jk;exact b
      ·exact h3 j (by omega) hl⟩⟩
    ·exact⟨k,.inr ⟨k,rfl,Nat.lt_succ_self k,e,λj hj hl=>by
      by_cases jk:j=k
      ·subst jk;exact Int.le_refl _
      ·have:=h3 j (by omega) hl;omega⟩⟩
  ·rcases h with⟨rfl,h⟩ | ⟨i,rfl,hi,h2,h3⟩
   ·exact⟨-1,.inl ⟨rfl,λj hj hl=>by
     by_cases jk:j=k
     ·subst jk;exact e hl
     ·exact h j (by omega) hl⟩⟩
   ·exact⟨i,.inr ⟨i,rfl,by omega,h2,λj hj hl=>by
     by_cases jk:j=k
     ·subst jk;exact absurd hl e
     ·exact h3 j (by omega) hl⟩⟩
theorem c8z(x:Hp)(s:Snd x):∃r,a6o x r:=let ⟨r,h⟩:=c8y x x.cells.length;⟨r,.inl ⟨s.ok,h⟩⟩
theorem c0c(x:Hp)(s:Snd x):∃r,a9x x r:=by classical exact⟨_,.inl ⟨s.ok,λi=>decide (dK x i),λi=>by simp,rfl⟩⟩
end Go.Proofs.YtddkhnclmeikfaaGreat
namespace Go.Proofs.YtddkhnclmeikfaaGreat
open Go.RowKit
attribute [local go_sem ↓] Go.wp_at_zero Go.wp_at_succ
variable{w v w':World}{B g c m b k lf q:Nat}{x y:Hp}{L:List Ak}{va:Value}{S T:Nat->Prop}
def Cu(v w:World)(c m:Nat):Prop:=Ext v w/\v.heap.size<=c/\Nf1 c w/\∃(ad:Option Addr) (n k:Nat) (a s:Int),w.cell? ⟨c,0,none⟩=some (.slice ad n k)/\w.cell? ⟨c,1,none⟩=some (iv a)/\w.cell? ⟨c,2,none⟩=some (.int .u64 s)/\0<=a/\a<=m/\n<=1048576/\∀i,i<n->∃b o z,ad=some ⟨b,o,none⟩/\v.cell? ⟨b,o+i,none⟩=some (.int .u8 z)/\0<=z/\z<256
theorem Cu.drew(h:Cu v w c m):Cu v w.drew c m:=by
 obtain⟨e,l,nf,ad,n,k,a,s,c0,c1,c2,r⟩:=h;exact⟨e.drew,l,nf,ad,n,k,a,s,c0,c1,c2,r⟩
theorem Cu.put1(h:Cu v w c m){i:Int}(h0:0<=i)(hk:i<=k):Cu v (w.setCell ⟨c,1,none⟩ (iv i)) c k:=by
 obtain⟨e,l,nf,ad,n,k,a,s,c0,c1,c2,_,_,r⟩:=h;exact⟨e.setCell l _,l,nf.set _ _,ad,n,k,i,s,by rw[uC _ (.inr (by omega))];exact c0,yZ.same ⟨⟨_,c1⟩,nf.2 1⟩ _,by rw[uC _ (.inr (by omega))];exact c2,h0,hk,r⟩
theorem Cu.put2(h:Cu v w c m)(u:Int):Cu v (w.setCell ⟨c,2,none⟩ (.int .u64 u)) c m:=by
 obtain⟨e,l,nf,ad,n,k,a,s,c0,c1,c2,r⟩:=h;exact⟨e.setCell l _,l,nf.set _ _,ad,n,k,a,u,by rw[uC _ (.inr (by omega))];exact c0,by rw[uC _ (.inr (by omega))];exact c1,yZ.same ⟨⟨_,c2⟩,nf.2 2⟩ _,r⟩
def c2i(v w:World)(c m:Nat)(n:Int)(e:Ending)(w':World):Prop:=∃r:Int,Hid (e=.returned (iv r))/\0<=r/\r<n/\Hid (Cu v w' c m)/\Hid (uX (λq=>q=c) w w')
theorem and255(x:Int)(n:Nat):0<=wrap64 (bits .and .u64 (IntKind.u64.wrap x / n) 255)/\wrap64 (bits .and .u64 (IntKind.u64.wrap x / n) 255)<256:=by
 have h0:0<=IntKind.u64.wrap x/\IntKind.u64.wrap x<18446744073709551616:=by rw[IntKind.wrap_u64];omega
 obtain⟨k,hk⟩:∃k:Nat,IntKind.u64.wrap x=k:=⟨(IntKind.u64.wrap x).toNat,by omega⟩;rw[hk] at h0 ⊢;have e:((k:Int) / (n:Int))=((k / n:Nat):Int):=by simp
 have hd:k / n<=k:=Nat.div_le_self _ _;have h2:=bits_and_u64_nat (k / n) 255 (by omega) (by omega);rw[e,show(255:Int)=((255:Nat):Int) from rfl,h2];have h3:k / n &&& 255<=255:=Nat.and_le_right;unfold wrap64;omega
theorem b6a(v w:World)(c m:Nat)(h:Cu v w c m)(hm:m<=1000000000):
  Calls Tryz.prog 98 #[.pointer (some ⟨c,0,none⟩)] w λe w'=>c2i v w c (m+1) 256 e w':=by
 have H:=uU h;obtain⟨e,l,nf,ad,n,k,a,s,c0,c1,c2,a0,am,hn,hx⟩:=h;have hc:c<w.heap.size:=nf.1;have f1:=nf.2 1;have f2:=nf.2 2;by_cases hl:a<n
 ·obtain⟨b,o,z,rfl,hz,z0,z1⟩:=hx a.toNat (by omega);have hb:=e.keep hz;have hbv:b<v.heap.size:=uL hz;have hbc:¬b=c:=by omega
  obtain⟨i,rfl⟩:∃i:Nat,a=i:=⟨a.toNat,by omega⟩;simp only [Int.toNat_natCast] at hb;have hb2:b<w.heap.size:=uL hb;clear hx hz e;go_enter Tryz.func98,Tryz.ntmps98;go_wp2_with fail
  go_region
  go_wp2_with fail
  go_region
  go_wp2_with fail;go_ret;exact⟨z,rfl,z0,z1,((H.put1 (by omega) (by omega)).put2 _).drew.drew,(((uX.refl _ w).setCell (by rfl) _).setCell (by rfl) _).drew.drew⟩
 ·have hl2:(a<(n:Int))=False:=by simp;omega
  clear hx e;go_enter Tryz.func98,Tryz.ntmps98;go_wp2_with fail
  go_region
  go_wp2_with fail;have B:=and255 (IntKind.u64.wrap (s*6364136223846793005)+1442695040888963407) 1099511627776;go_ret;exact⟨_,rfl,B.1,B.2,((H.put2 _).put1 (by omega) (by omega)).drew,(((uX.refl _ w).setCell (by rfl) _).setCell (by rfl) _).drew⟩
theorem Cu.more(h:Cu v w c m)(hk:m<=k):Cu v w c k:=by
 obtain⟨e,l,nf,ad,n,q,a,s,c0,c1,c2,a0,am,r⟩:=h;exact⟨e,l,nf,ad,n,q,a,s,c0,c1,c2,a0,by omega,r⟩
theorem c9a(v w:World)(c m:Nat)(n:Int)(h:Cu v w c m)(hm:m<=999999999)(hn:n<=1000000)(h1:-1000000<=n):
  Calls Tryz.prog 54 #[.pointer (some ⟨c,0,none⟩),iv n] w λe w'=>c2i v w c (m+2) (if n<=1 then 1 else n) e w':=by
 have H:=uU h;have Q:=uU (b6a v w c m h (by omega));clear h;by_cases hl:n<=1
 ·rw[if_pos hl];have e1:(n<=1)=True:=by simp [hl]
  go_enter Tryz.func54,Tryz.ntmps54;go_wp2_with fail;go_ret;exact⟨0,rfl,by omega,by omega,H.more (by omega),uX.refl _ _⟩
 ·rw[if_neg hl];by_cases h2:n > 200
  ·go_enter Tryz.func54,Tryz.ntmps54;go_wp2_with fail;refine Q.mono ?_;rintro e w1 ⟨r,he,r0,r1,q1,o1⟩;have e2:=uH he;subst e2;have Q2:=uU (b6a v w1 c (m+1) q1 (by omega));go_wp2_with fail;refine Q2.mono ?_;rintro e w2 ⟨t,he,t0,t1,q2,o2⟩;have e2:=uH he;subst e2;go_wp2_with fail;go_ret;exact⟨_,rfl,Int.emod_nonneg _ (by omega),Int.emod_lt_of_pos _ (by omega),q2,o1.trans o2⟩
  ·go_enter Tryz.func54,Tryz.ntmps54;go_wp2_with fail;refine Q.mono ?_;rintro e w1 ⟨r,he,r0,r1,q1,o1⟩;have e2:=uH he;subst e2;go_wp2_with fail;go_ret;exact⟨_,rfl,Int.emod_nonneg _ (by omega),Int.emod_lt_of_pos _ (by omega),q1.more (by omega),o1⟩
theorem b7g(v w:World)(c m:Nat)(n:Int)(h:Cu v w c m)(hm:m<=999999999)(hn:n<=1000000)(h1:1<=n):
  Calls Tryz.prog 54 #[.pointer (some ⟨c,0,none⟩),iv n] w λe w'=>c2i v w c (m+2) n e w':=by
 have:=c9a v w c m n h hm hn (by omega);have e:(if n<=1 then 1 else n)=n:=by split <;> omega
 rw[e] at this;exact this
def c6b(v w:World)(c m:Nat)(e:Ending)(w':World):Prop:=∃r:Int,Hid (e=.returned (iv r))/\Hid (-9223372036854775808<=r/\r<=9223372036854775807)/\Hid (Cu v w' c m)/\Hid (uX (λq=>q=c) w w')
theorem c6c(v w:World)(c m:Nat)(h:Cu v w c m)(hm:m<=99999999):
  Calls Tryz.prog 196 #[.pointer (some ⟨c,0,none⟩)] w λe w'=>c6b v w c (m+4) e w':=by
 have Q:=uU (b7g v w c m 6 h (by omega) (by omega) (by omega));go_enter Tryz.func196,Tryz.ntmps196;go_wp2_with fail;refine Q.mono ?_;rintro e w1 ⟨r,he,r0,r1,q1,o1⟩;have e2:=uH he;subst e2;have K:=uU (λ(n:Int) (h1:1<=n) (h2:n<=1000000)=>b7g v w1 c (m+2) n q1 (by omega) h2 h1);go_wp2_with fail
 all_goals
  refine(K _ (by omega) (by omega)).mono ?_;rintro e w2 ⟨t,he,t0,t1,q2,o2⟩;have e2:=uH he;subst e2;go_wp2_with fail;go_ret;exact⟨_,rfl,⟨by omega,by omega⟩,q2,o1.trans o2⟩
def GG(S:Nat->Prop)(B:Nat)(w:World)(g:Nat)(x:Hp):Prop:=∃z:Nat->Option Obj,(∀q,S q->∃o,z q=some o)/\@GOk ⟨⟨z⟩⟩ B w g x
theorem GOk.prt{p:Inhabited uZ}(h:@GOk p B w g x){o:Obj}(hq:(@default uZ p).z q=some o):w.heap[q]?=some o:=by
 obtain⟨ar,kr,ac,kc,vg,br,bc,pb,pa,pk,role,h⟩:=h;exact(h.pr q o hq).2
theorem GG.lt(h:GG S B w g x)(hq:S q):q<w.heap.size:=by
 obtain⟨z,hz,h⟩:=h;obtain⟨o,ho⟩:=hz q hq;exact b1d (h.prt ho)
theorem GG.call(h:GG S B w g x):∃p:Inhabited uZ,@GOk p B w g x/\∀w' y,@GOk p B w' g y->GG S B w' g y/\∀q,S q->w'.heap[q]?=w.heap[q]?:=by
 obtain⟨z,hz,h⟩:=h;refine⟨⟨⟨z⟩⟩,h,λw' y h'=>⟨⟨z,hz,h'⟩,λq hq=>?_⟩⟩;obtain⟨o,ho⟩:=hz q hq;rw[h'.prt ho,h.prt ho]
theorem GG.turn(h:GG S B w g x)(on:uX S w w')(hs:∀q,T q->S q\/(w.heap.size<=q/\q<w'.heap.size)):GG T B w' g x:=by
 obtain⟨z,hz,ar,kr,ac,kc,vg,br,bc,pb,pa,pk,role,h⟩:=h;have h0:=h;obtain⟨_,_,_,_,_,_,_,_,_,pr,_⟩:=h0;refine⟨λq=>if w.heap.size<=q\/(z q).isSome then w'.heap[q]? else none,λq hq=>?_,ar,kr,ac,kc,vg,br,bc,pb,pa,pk,λq=>if w.heap.size<=q then 1 else role q,GAt.far h on.size (λq hq hn=>on.block q hq (λe=>?_)) (λq hq _=>if_neg (by omega)) (λq o hq=>?_)⟩
 ·rcases hs q hq with a | ⟨a,b⟩
  ·obtain⟨o,ho⟩:=hz q a;simp only [ho,Option.isSome_some,or_true,if_true];exact a5g (Nat.lt_of_lt_of_le (b1d (pr q o ho).2) on.size)
  ·simp only [a,true_or,if_true];exact a5g b
 ·obtain⟨o,ho⟩:=hz q e;exact hn (pr q o ho).1
 ·split at hq
  ·rename_i c;refine⟨?_,hq⟩;by_cases hw:w.heap.size<=q
   ·exact if_pos hw
   ·obtain⟨o2,ho⟩:=Option.isSome_iff_exists.1 (c.resolve_left hw);show(if w.heap.size<=q then 1 else role q)=1;rw[if_neg hw];exact(pr q o2 ho).1
  ·cases hq
theorem GG.more(h:GG S B w g x)(e:Ext w w')(hs:∀q,T q->S q\/(w.heap.size<=q/\q<w'.heap.size)):GG T B w' g x:=h.turn (uX.of_ext e) hs
theorem GG.poke{P:Nat->Prop}(h:GG S B w g x)(on:uX P w w')(hp:∀q,P q->S q):GG S B w' g x:=h.turn (on.mono hp) (λ_ hq=>.inl hq)
theorem a0o{o:Nat}(h:w'.heap[b]?=w.heap[b]?):w'.cell? ⟨b,o,none⟩=w.cell? ⟨b,o,none⟩:=World.cell?_of_block h
theorem b0e(h:Nf1 b w)(hb:w'.heap[b]?=w.heap[b]?):Nf1 b w':=by
 obtain⟨o,ho⟩:=a5g h.1;exact⟨b1d (hb.trans ho),λj=>by rw[World.frozen?_of_block (a:=⟨b,j,none⟩) hb];exact h.2 j⟩
theorem Cu.blk(h:Cu v w c m)(e:Ext v w')(hb:w'.heap[c]?=w.heap[c]?):Cu v w' c m:=by
 obtain⟨_,l,nf,ad,n,k,a,s,c0,c1,c2,r⟩:=h;exact⟨e,l,b0e nf hb,ad,n,k,a,s,(a0o hb).trans c0,(a0o hb).trans c1,(a0o hb).trans c2,r⟩
def AkFit(x:Ak):Prop:=(-9223372036854775808<=x.op/\x.op<=9223372036854775807)/\(-9223372036854775808<=x.a/\x.a<=9223372036854775807)/\(-9223372036854775808<=x.b/\x.b<=9223372036854775807)/\(-9223372036854775808<=x.c/\x.c<=9223372036854775807)/\(-9223372036854775808<=x.n/\x.n<=9223372036854775807)
structure Bp(B:Nat)(v w:World)(b c g m:Nat)(x:Hp)(L:List Ak)(va:Value)(lf:Nat):Prop where
 s:Snd x
 hL:∀a,a∈L->AkFit a
 hl:L.length+lf<=400
 cu:Cu v w c m
 vB:v.heap.size<=B
 vb:v.heap.size<=b
 bc:b≠c
 nf:Nf1 b w
 b0:w.cell? ⟨b,0,none⟩=some (.pointer (some ⟨c,0,none⟩))
 b1:w.cell? ⟨b,1,none⟩=some (.pointer (some ⟨g,0,none⟩))
 b2:w.cell? ⟨b,2,none⟩=some va
 b3:w.cell? ⟨b,3,none⟩=some (iv lf)
 ow:w.ownsRow v.heap.size 39 5 va L.length (L.flatMap fA)
 n1:va.ownBlock≠some b
 n2:va.ownBlock≠some c
 gg:GG (λq=>q=b\/q=c\/va.ownBlock=some q) B w g x
def Bd(B:Nat)(v w:World)(b c g m:Nat):Prop:=∃x L va lf,Bp B v w b c g m x L va lf
theorem Bd.c0(h:Bd B v w b c g m):w.cell? ⟨b,0,none⟩=some (.pointer (some ⟨c,0,none⟩)):=by
 obtain⟨_,_,_,_,h⟩:=h;exact h.b0
theorem Bd.c1(h:Bd B v w b c g m):w.cell? ⟨b,1,none⟩=some (.pointer (some ⟨g,0,none⟩)):=by
 obtain⟨_,_,_,_,h⟩:=h;exact h.b1
theorem Bd.cu(h:Bd B v w b c g m):Cu v w c m:=by
 obtain⟨_,_,_,_,h⟩:=h;exact h.cu
theorem Bp.blk(h:Bp B v w b c g m x L va lf)(e:Ext v w')(s:Snd y)(gg:GG (λq=>q=b\/q=c\/va.ownBlock=some q) B w' g y)(k:∀q,q=b\/q=c\/va.ownBlock=some q->w'.heap[q]?=w.heap[q]?):Bp B v w' b c g m y L va lf:=by
 have hb:=k b (.inl rfl);exact⟨s,h.hL,h.hl,h.cu.blk e (k c (.inr (.inl rfl))),h.vB,h.vb,h.bc,b0e h.nf hb,(a0o hb).trans h.b0,(a0o hb).trans h.b1,(a0o hb).trans h.b2,(a0o hb).trans h.b3,uN h.ow (λq hq=>k q (.inr (.inr hq))),h.n1,h.n2,gg⟩
theorem Bp.ext(h:Bp B v w b c g m x L va lf)(e:Ext w w'):Bp B v w' b c g m x L va lf:=
 h.blk (h.cu.1.trans e) h.s (h.gg.more e (λ_ hq=>.inl hq)) (λq hq=>e.block q (h.gg.lt hq))
theorem Bd.ext(h:Bd B v w b c g m)(e:Ext w w'):Bd B v w' b c g m:=by
 obtain⟨x,L,va,lf,h⟩:=h;exact⟨x,L,va,lf,h.ext e⟩
theorem Bp.read(h:Bp B v w b c g m x L va lf)(o:uX (λq=>q=c) w w')(cu:Cu v w' c k):Bp B v w' b c g k x L va lf:=by
 have hb:w'.heap[b]?=w.heap[b]?:=o.block b h.nf.1 h.bc;exact⟨h.s,h.hL,h.hl,cu,h.vB,h.vb,h.bc,b0e h.nf hb,(a0o hb).trans h.b0,(a0o hb).trans h.b1,(a0o hb).trans h.b2,(a0o hb).trans h.b3,uN h.ow (λq hq=>o.block q (h.ow.lt q hq).2 (λe=>h.n2 (by rw[<-e];exact hq))),h.n1,h.n2,h.gg.poke o (λ_ e=>.inr (.inl e))⟩
def b1e(B:Nat)(v:World)(b c g m:Nat)(n:Int)(e:Ending)(w':World):Prop:=∃r:Int,Hid (e=.returned (iv r))/\0<=r/\r<n/\Hid (Bd B v w' b c g m)
theorem Bd.read(h:Bd B v w b c g m)(o:uX (λq=>q=c) w w')(cu:Cu v w' c k):Bd B v w' b c g k:=by
 obtain⟨x,L,va,lf,h⟩:=h;exact⟨x,L,va,lf,h.read o cu⟩
theorem zK(B:Nat)(v w:World)(b c g m:Nat)(n:Int)(h:Bd B v w b c g m)(hm:m<=999999999)(hn:n<=1000000)(h1:1<=n):
  Calls Tryz.prog 54 #[.pointer (some ⟨c,0,none⟩),iv n] w λe w'=>b1e B v b c g (m+2) n e w':=
 (b7g v w c m n h.cu hm hn h1).mono λ_ _ ⟨r,he,r0,r1,q,o⟩=>⟨r,he,r0,r1,h.read o q⟩
theorem bwhole(B:Nat)(v w:World)(b c g m:Nat)(h:Bd B v w b c g m)(hm:m<=99999999):
  Calls Tryz.prog 196 #[.pointer (some ⟨c,0,none⟩)] w λe w'=>∃r:Int,Hid (e=.returned (iv r))/\(-9223372036854775808<=r/\r<=9223372036854775807)/\Hid (Bd B v w' b c g (m+4)):=
 (c6c v w c m h.cu hm).mono λ_ _ ⟨r,he,hr,q,o⟩=>⟨r,he,hr,h.read o q⟩
theorem Bp.left(h:Bp B v w b c g m x L va lf)(hk:k<=lf):Bp B v (w.setCell ⟨b,3,none⟩ (iv k)) b c g m x L va k:=by
 have o:uX (λq=>q=b) w (w.setCell ⟨b,3,none⟩ (iv k)):=(uX.refl (λq=>q=b) w).setCell (p:=⟨b,3,none⟩) rfl _;have hc:=o.block c h.cu.2.2.1.1 (λe=>h.bc e.symm);exact⟨h.s,h.hL,by have:=h.hl;omega,h.cu.blk (o.ext h.cu.1 (λq hq e=>by have:=h.vb;omega)) hc,h.vB,h.vb,h.bc,h.nf.set _ _,by rw[uC _ (.inr (by omega))];exact h.b0,by rw[uC _ (.inr (by omega))];exact h.b1,by rw[uC _ (.inr (by omega))];exact h.b2,yZ.same ⟨⟨_,h.b3⟩,h.nf.2 3⟩ _,uN h.ow (λq hq=>o.block q (h.ow.lt q hq).2 (λe=>h.n1 (by rw[<-e];exact hq))),h.n1,h.n2,h.gg.poke o (λ_ e=>.inl e)⟩
structure AppA(base:Nat)(w0:World)(va:Value)(L:List Ak)(A:Ak)(q cap:Nat)(w':World):Prop where
 ow:w'.ownsRow base 39 5 (.slice (some ⟨q,0,none⟩) (L.length+1) cap) (L.length+1) ((L++[A]).flatMap fA)
 on:uX (λr=>va.ownBlock=some r) w0 w'
 at_:va.ownBlock=some q\/w0.heap.size<=q
theorem Bp.push{A:Ak}{cap:Nat}(h:Bp B v w b c g m x L va lf)(hl:L.length+lf+1<=400)(hA:AkFit A)(a:AppA v.heap.size w va L A q cap w'):Bp B v (w'.setCell ⟨b,2,none⟩ (.slice (some ⟨q,0,none⟩) (L.length+1) cap)) b c g m x (L++[A]) (.slice (some ⟨q,0,none⟩) (L.length+1) cap) lf:=by
 have hb:=a.on.block b h.nf.1 h.n1;have hc:=a.on.block c h.cu.2.2.1.1 h.n2
 have nb:q≠b:=λe=>by
  rcases a.at_ with f | f
  ·exact h.n1 (by rw[f,e])
  ·have:=h.nf.1;omega
 have nc:q≠c:=λe=>by
  rcases a.at_ with f | f
  ·exact h.n2 (by rw[f,e])
  ·have:=h.cu.2.2.1.1;omega
 have nf:=b0e h.nf hb;have ev:Ext v w':=a.on.ext h.cu.1 (λr hr e=>by have:=(h.ow.lt r e).1;omega);have o:uX (λr=>r=b) w' (w'.setCell ⟨b,2,none⟩ (.slice (some ⟨q,0,none⟩) (L.length+1) cap)):=(uX.refl (λq=>q=b) w').setCell (p:=⟨b,2,none⟩) rfl _;have hc2:=(o.block c (by have:=a.on.size;have:=h.cu.2.2.1.1;omega) (λe=>h.bc e.symm)).trans hc;have e1:(Value.slice (some ⟨q,0,none⟩) (L.length+1) cap).ownBlock=some q:=rfl;have hqs:=(a.ow.lt q e1).2;refine⟨h.s,λy hy=>?_,by simp;omega,h.cu.blk (o.ext ev (λr hr e=>by have:=h.vb;omega)) hc2,h.vB,h.vb,h.bc,nf.set _ _,?_,?_,?_,?_,?_,by rw[e1];intro e;exact nb (Option.some.inj e),by rw[e1];intro e;exact nc (Option.some.inj e),?_⟩
 ·rcases List.mem_append.1 hy with e | e
  ·exact h.hL y e
  ·simp at e;subst e;exact hA
 ·rw[uC _ (.inr (by omega))];exact(a0o hb).trans h.b0
 ·rw[uC _ (.inr (by omega))];exact(a0o hb).trans h.b1
 ·exact yZ.same ⟨⟨_,(a0o hb).trans h.b2⟩,nf.2 2⟩ _
 ·rw[uC _ (.inr (by omega))];exact(a0o hb).trans h.b3
 ·have:(L++[A]).length=L.length+1:=by simp
  rw[this];exact uN a.ow (λr hr=>o.block r (a.ow.lt r hr).2 (λe=>by rw[e1] at hr;have:=Option.some.inj hr;omega))
 ·refine((h.gg.turn (T:=λr=>r=b\/r=c\/some q=some r) (a.on.mono λ_ e=>.inr (.inr e)) (λr hr=>?_)).poke o (λ_ e=>.inl e));rcases hr with e | e | e
  ·exact .inl (.inl e)
  ·exact .inl (.inr (.inl e))
  ·have e:=Option.some.inj e;subst e;rcases a.at_ with f | f
   ·exact .inl (.inr (.inr f))
   ·exact .inr ⟨f,hqs⟩
theorem DoIs.snd{op a b c n:Int}{cd nm:Int}(s:Snd x)(h:DoIs x op a b c n y cd nm):Snd y:=by
 rcases h with⟨_,h2,_⟩ | ⟨ok,h2⟩
 ·rw[h2];exact s
 ·obtain⟨h1,ha,hb,hc⟩:=dL ok;have hA:zE op<=15:=by unfold zE;split <;> omega
  have hB:op≠1->op≠23->zJ op<=15:=λe1 e2=>by unfold zJ;rw[if_neg e1,if_neg e2];split <;> omega
  refine DoR.snd s (by omega) (λe1 e2=>by have:=hB (by omega) (by omega);omega) (λe=>?_) (λe=>?_) (λe=>?_) (λe=>?_) h2
  ·have e:op=1:=by omega
   subst e;simp [zJ,tH] at hb hc;omega
  ·have e:op=23:=by omega
   subst e;simp [zJ,zY,tH] at hb hc;omega
  ·have e:op=11:=by omega
   subst e;simp [tH] at hc;omega
  ·have e:op=12:=by omega
   subst e;simp [tH] at hc;omega
theorem l5do_gg(S:Nat->Prop)(B:Nat)(v w:World)(g:Nat)(x:Hp)(A:Ak)(h:GG S B w g x)(s:Snd x)(hv:v.heap.size<=B)(e:Ext v w):
  Calls Tryz.prog 234 #[.pointer (some ⟨g,0,none⟩),A.v] w λe w'=>∃(y:Hp) (u:Value),Hid (e=.returned u)/\Hid (Snd y)/\Hid (GG S B w' g y)/\Hid (∀q,S q->w'.heap[q]?=w.heap[q]?)/\Hid (Ext v w'):=by
 obtain⟨p,h1,h2⟩:=h.call;exact(c9r B g x A.op A.a A.b A.c A.n w h1 s v hv e).mono λ_ _ ⟨y,cd,nm,he,hd,hg,hx⟩=>⟨y,_,he,DoIs.snd s hd,(h2 _ _ hg).1,(h2 _ _ hg).2,hx⟩
theorem infoA:(Tryz.prog.info? 39).map (λi=>(i.zero,i.size,i.bytes))=some (some (.agg #[iv 0,iv 0,iv 0,iv 0,iv 0]),5,40):=by kernel_rfl
theorem c6p{ops:Array Oper}{o:Oper}{a:Act}{K:Act->World->Prop}{Q:Exit->Act->World->Prop}{E:Prop}(W:World)(hgd:o.guard=none)(s y:Operand)
  (ho:o.op=.call { callee:=.builtin .append,args:=#[s,y],argTypes:=#[23,23] })
         (h:Bp B v w b c g m x L va lf) (e:Ext w W) (A:Ak) (ad:Addr) (hs:a.eval s=va) (hy:a.eval y=.slice (some ad) 1 1) (hn:∀j u,(fA A)[j]?=some u->W.cell? (ad.add j)=some u)
  (hK:∀q cap w',AppA v.heap.size w va L A q cap w'->K (a.put o.dst (.slice (some ⟨q,0,none⟩) (L.length+1) cap)) w') :
  if Region.wanted o (yielded ops a.tmps)=true then Oper.wp Tryz.prog o a W K Q else E:=by
 obtain⟨i0,hi0,hz0,hz1,hz2⟩:=info_parts infoA;have hl:=h.hl;have he:=e.size;have hv:=h.cu.1.size;refine step_append_lies (w:=W) hgd s y 23 ho v.heap.size 39 i0 (.agg #[iv 0,iv 0,iv 0,iv 0,iv 0]) 5 40 Tryz.underlying23 hi0 hz0 hz1 hz2 rfl (by decide) va L.length (L.flatMap fA) hs (uN h.ow (λq hq=>e.block q (h.ow.lt q hq).2)) ad 1 1 (fA A) hy rfl hn (λu hu=>?_) (by decide) (by unfold maxLen;omega) (by omega) (by omega) _ rfl (λq cap w' how hgr hat hlt=>hK q cap w' ⟨?_,?_,?_⟩)
 ·simp [fA] at hu;rcases hu with e | e | e | e | e <;> subst e <;> rfl
 ·rw[List.flatMap_append];simpa using how
 ·exact(uX.of_ext e).trans ⟨hgr.os,hgr.tape,hgr.output,hgr.size,λq hq hne=>hgr.block q hq (λe=>hne e.symm)⟩
 ·rcases hat with f | f
  ·exact .inl f
  ·exact .inr (by omega)
theorem c0k(B:Nat)(v w:World)(b c g m:Nat)(A:Ak)(hA:AkFit A)(h:Bd B v w b c g m):
  Calls Tryz.prog 195 #[.pointer (some ⟨b,0,none⟩),A.v] w λe w'=>e=.returned (.tuple #[])/\Hid (Bd B v w' b c g m):=by
 obtain⟨x,L,va,lf,h⟩:=h;have H:=uU h;have b3:=h.b3;have hb:b<w.heap.size:=h.nf.1;have f3:=h.nf.2 3;cases lf with
 | zero=>
  have HE:=uU (λW (e:Ext w W)=>(⟨x,L,va,0,H.ext e⟩:Bd B v W b c g m));clear h;go_enter Tryz.func195,Tryz.ntmps195;go_wp2_with fail;refine bodyPost_ret (results_none rfl _ _ _) rfl ?_;exact⟨rfl,uH HE _ ((Ext.refl _).alloc _)⟩
 | succ lf=>
  obtain⟨W,hW⟩:∃W,W=(w.setCell ⟨b,3,none⟩ (iv lf)).alloc (.cells #[iv A.op,iv A.a,iv A.b,iv A.c,iv A.n] 39):=⟨_,rfl⟩;have HW:=uU hW;have HP:=uU ((h.left (k:=lf) (by omega)).ext ((Ext.refl _).alloc (.cells #[iv A.op,iv A.a,iv A.b,iv A.c,iv A.n] 39)));rw[<-hW] at HP;have HL:=uU (show L.length+lf+1<=400 by have:=h.hl;omega);have ks:(w.setCell ⟨b,3,none⟩ (iv lf)).heap.size=w.heap.size:=by simp [World.setCell]
  obtain⟨k,hk⟩:∃k,k=w.heap.size:=⟨_,rfl⟩;have KV:=uU (show va.ownBlock≠some k from λe=>by have:=(h.ow.lt k e).2;omega);have kb:¬k=b:=by omega
  have AC:=uU (show W.cell? ⟨k,0,none⟩=some (iv A.op)/\W.cell? ⟨k,1,none⟩=some (iv A.a)/\W.cell? ⟨k,2,none⟩=some (iv A.b)/\W.cell? ⟨k,3,none⟩=some (iv A.c)/\W.cell? ⟨k,4,none⟩=some (iv A.n) by
   rw[hW,hk,<-ks];simp [go_sem])
  clear h;have e1:((lf+1:Nat):Int)-1=lf:=by omega
  have lb:lf<=400:=by have:=uH HL;omega
  go_enter Tryz.func195,Tryz.ntmps195;go_wp2_with fail;rw[<-hW,<-hk];have c2:=HP.b2;have g2:=HP.nf.2 2;have hbW:b<W.heap.size:=uL c2;obtain⟨a0,a1,a2,a3,a4⟩:=uH AC;have hkW:k<W.heap.size:=uL a0;clear b3 f3 hb hW hk e1 ks;go_region_law (refine c6p _ rfl _ _ rfl HP (by first | exact(Ext.refl _).alloc _ | exact((Ext.refl _).alloc _).drew | exact(Ext.refl _).drew.alloc _) A _ (by first | rfl | simp [Act.eval,Act.put]) (by first | rfl | simp [Act.eval,Act.put];rfl) (World.news_of_block (cs:=#[iv A.op,iv A.a,iv A.b,iv A.c,iv A.n]) (by first | exact heap_alloc_new _ _ | simp)) ?_;intro q cap w3 hap;have c2':=hap.on.keep HP.n1 c2;have g2':=(b0e HP.nf (hap.on.block b HP.nf.1 HP.n1)).2 2;have hb3:b<w3.heap.size:=uL c2';have AP:=uU hap;clear hap)
  all_goals
   obtain⟨W4,hW4⟩:∃W4,W4=w3.setCell ⟨b,2,none⟩ (.slice (some ⟨q,0,none⟩) (L.length+1) cap):=⟨_,rfl⟩;have PB:=uU (HP.push HL hA AP);have K4:=uU (λ(j:Nat) (u:Value) (e:W.cell? ⟨k,j,none⟩=some u)=>show W4.cell? ⟨k,j,none⟩=some u by rw[hW4,uC _ (.inl (λe=>kb e.symm))];exact AP.on.keep KV e);rw[<-hW4] at PB ⊢;have b0:=uH K4 _ _ a0;have b1:=uH K4 _ _ a1;have b2:=uH K4 _ _ a2;have b3:=uH K4 _ _ a3;have b4:=uH K4 _ _ a4;have c1:=PB.b1;have hk4:k<W4.heap.size:=uL b0;have hb4:b<W4.heap.size:=uL c1;have QD:=uU (λW (e:Ext W4 W)=>l5do_gg _ B v W g x A (PB.ext e).gg (PB.ext e).s (PB.ext e).vB (PB.ext e).cu.1);have FI:=uU (λ(W w5:World) (e:Ext W4 W) (y:Hp) (s5:Snd y) (g5:GG (λr=>r=b\/r=c\/some q=some r) B w5 g y) (k5:∀r,r=b\/r=c\/some q=some r->w5.heap[r]?=W.heap[r]?) (x5:Ext v w5)=>(⟨y,_,_,_,(PB.ext e).blk x5 s5 g5 k5⟩:Bd B v w5 b c g m));clear a0 a1 a2 a3 a4 c2 g2 hbW hkW c2' g2' hb3 hW4 K4 AP AC KV;go_wp2_with fail;go_region_with (go_at_call 234;refine(QD _ (by first | exact Ext.refl _ | exact(Ext.refl _).drew)).mono ?_;rintro e w5 ⟨y,u,he,s5,g5,k5,x5⟩;have e2:=uH he;subst e2;have BD:=uU (FI _ w5 (by first | exact Ext.refl _ | exact(Ext.refl _).drew) y s5 g5 k5 x5);clear he s5 g5 k5 x5)
   all_goals
    go_wp2_with fail
    go_end0
    first | exact⟨rfl,BD⟩ | exact⟨rfl,BD.ext (Ext.refl _).drew⟩
theorem a1e(B:Nat)(v w:World)(b c g m:Nat)(op x y z:Int)(ho:0<=op/\op<=100)(hx:-1000000000<=x/\x<=1000000000)(hy:-1000000000<=y/\y<=1000000000)(hz:-1000000000<=z/\z<=1000000000)(h:Bd B v w b c g m):
  Calls Tryz.prog 194 #[.pointer (some ⟨b,0,none⟩),iv op,iv x,iv y,iv z] w λe w'=>e=.returned (.tuple #[])/\Hid (Bd B v w' b c g m):=by
 have Q:=uU (c0k B v w b c g m ⟨op,x,y,z,0⟩ (by refine⟨?_,?_,?_,?_,?_⟩ <;> simp only <;> omega) h);go_enter Tryz.func194,Tryz.ntmps194;go_wp2_with fail;refine Q.mono ?_;rintro e w' ⟨rfl,h'⟩;go_wp2_with fail
 go_end0
 exact⟨rfl,h'⟩
theorem Bd.more(h:Bd B v w b c g m)(hk:m<=k):Bd B v w b c g k:=h.read (uX.refl _ _) (h.cu.more hk)
theorem c9s(B:Nat)(v w:World)(b c g m:Nat)(f:Nat)(hf:f<16)(h:Bd B v w b c g m):
  Calls Tryz.prog 198 #[.pointer (some ⟨b,0,none⟩),iv f] w λe w'=>b1e B v b c g m 201 e w':=by
 have HE:=uU (λW (e:Ext w W)=>h.ext e);have c1:=h.c1;obtain⟨x,L,va,lf,h⟩:=h;obtain⟨p,hg,_⟩:=h.gg.call;obtain⟨br,kr,hr⟩:=hg.regs h.s.r1.regs;have hb:b<w.heap.size:=h.nf.1;have c3:=hr.c3;obtain⟨r0,r1,r2⟩:=hr.r f hf;have hgw:g<w.heap.size:=uL c3;have hbr:br<w.heap.size:=uL r0;have hf0:(0:Int)<=(f:Int):=by omega
 have hf1:(f:Int)<16:=by omega
 by_cases k2:(x.r f).k=2
 ·obtain⟨_,ea,hi,_,_⟩:=h.s.at f hf k2;obtain⟨bc,kc,ap,kp,hc⟩:=hg.cel (x.at f) hi;have c4:=hc.c4;have p7:=hc.p7;have P200:=uU (h.s.ok.p200 (x.at f) hi);have hbc:bc<w.heap.size:=uL p7;obtain⟨n,hn⟩:∃n,n=(x.c (x.at f)).prs.length:=⟨_,rfl⟩;rw[<-hn] at p7 P200;rw[k2] at r0;rw[ea] at r2;obtain⟨i,hI⟩:∃i,i=x.at f:=⟨_,rfl⟩;rw[<-hI] at r2 hi p7;have hi0:(0:Int)<=(i:Int):=by omega
  have hi1:(i:Int)<(x.cells.length:Int):=by omega
  have n200:n<=200:=uH P200;clear hr hc hg h k2 ea hn hI P200;go_enter Tryz.func198,Tryz.ntmps198;go_wp2_with fail
  go_region
  go_wp2_with fail;go_ret;exact⟨_,rfl,by omega,by omega,uH HE _ ((Ext.refl _).alloc _).drew⟩
 ·have k3:((x.r f).k != 2)=true:=by simpa using k2
  clear hr hg h k2;go_enter Tryz.func198,Tryz.ntmps198;go_wp2_with fail;go_ret;exact⟨_,rfl,by omega,by omega,uH HE _ ((Ext.refl _).alloc _)⟩
theorem bpairof(B:Nat)(v w:World)(b c g m:Nat)(f:Nat)(hf:f<16)(h:Bd B v w b c g m)(hm:m<=99999999):
  Calls Tryz.prog 197 #[.pointer (some ⟨b,0,none⟩),iv f] w λe w'=>b1e B v b c g (m+4) 201 e w':=by
 have Q:=uU (c9s B v w b c g m f hf h);clear h;go_enter Tryz.func197,Tryz.ntmps197;go_wp2_with fail;refine Q.mono ?_;rintro e w1 ⟨n,he,n0,n1,BD⟩;have e2:=uH he;subst e2;have b0:=BD.c0;have hb:b<w1.heap.size:=uL b0;cases t:(n == 0)
 ·have hn1:1<=n:=by simp at t;omega
  go_wp2_with (go_at_call 54;refine(zK B v _ b c g _ _ BD (by omega) (by omega) (by omega)).mono ?_;rintro e w1 ⟨r,he,r0,r1,bd⟩;have e2:=uH he;subst e2;clear b0 BD;have BD:=bd;have b0:=BD.c0;clear bd he)
  all_goals
   go_ret;exact⟨_,rfl,by omega,by omega,BD.more (by omega)⟩
 ·go_wp2_with fail;go_ret;exact⟨_,rfl,by omega,by omega,BD.more (by omega)⟩
theorem bsize(B:Nat)(v w:World)(b c g m:Nat)(h:Bd B v w b c g m)(hm:m<=99999999):
  Calls Tryz.prog 193 #[.pointer (some ⟨b,0,none⟩)] w λe w'=>b1e B v b c g (m+4) 201 e w':=by
 have BD:=uU h;have b0:=h.c0;clear h;go_enter Tryz.func193,Tryz.ntmps193;go_wp2_with (go_at_call 54;refine(zK B v _ b c g _ _ BD (by omega) (by omega) (by omega)).mono ?_;rintro e w1 ⟨r,he,r0,r1,bd⟩;have e2:=uH he;subst e2;clear b0 BD;have BD:=bd;have b0:=BD.c0;clear bd he)
 all_goals
  go_ret;exact⟨_,rfl,by omega,by omega,BD.more (by omega)⟩
theorem a8h(B:Nat)(v w:World)(b c g m:Nat)(h:Bd B v w b c g m)(hm:m<=99999999):
  Calls Tryz.prog 156 #[.pointer (some ⟨b,0,none⟩)] w λe w'=>e=.returned (.tuple #[])/\Hid (Bd B v w' b c g (m+6)):=by
 have BD:=uU h;have b0:=h.c0;clear h;go_enter Tryz.func156,Tryz.ntmps156;go_wp2_with (first | (go_at_call 54;refine(zK B v _ b c g _ _ BD (by omega) (by omega) (by omega)).mono ?_;rintro e w1 ⟨r,he,r0,r1,bd⟩;have e2:=uH he;subst e2;clear b0 BD;have BD:=bd;have b0:=BD.c0;clear bd he) | (go_at_call 194;refine(a1e B v _ b c g _ _ _ _ _ (by omega) (by omega) (by omega) (by omega) BD).mono ?_;rintro e w1 ⟨rfl,bd⟩;clear b0 BD;have BD:=bd;have b0:=BD.c0;clear bd))
 all_goals
  go_end0
  exact⟨rfl,BD.more (by omega)⟩
theorem bpairsI(B:Nat)(v w:World)(b c g m:Nat)(f:Int)(h0:0<=f)(h1:f<16)(h:Bd B v w b c g m):
  Calls Tryz.prog 198 #[.pointer (some ⟨b,0,none⟩),iv f] w λe w'=>b1e B v b c g m 201 e w':=by
 obtain⟨k,rfl⟩:∃k:Nat,f=k:=⟨f.toNat,by omega⟩;exact c9s B v w b c g m k (by omega) h
theorem c0m(B:Nat)(v w:World)(b c g m:Nat)(f:Int)(h0:0<=f)(h1:f<16)(h:Bd B v w b c g m)(hm:m<=99999999):
  Calls Tryz.prog 197 #[.pointer (some ⟨b,0,none⟩),iv f] w λe w'=>b1e B v b c g (m+4) 201 e w':=by
 obtain⟨k,rfl⟩:∃k:Nat,f=k:=⟨f.toNat,by omega⟩;exact bpairof B v w b c g m k (by omega) h hm
theorem emitI(B:Nat)(v w:World)(b c g m:Nat)(op x y z n:Int)(h1:0<=op/\op<=100)(h2:0<=x/\x<=100)(h3:0<=y/\y<=100)(h4:0<=z/\z<=100)(h5:-9223372036854775808<=n/\n<=9223372036854775807)(h:Bd B v w b c g m):
  Calls Tryz.prog 195 #[.pointer (some ⟨b,0,none⟩),.agg #[iv op,iv x,iv y,iv z,iv n]] w λe w'=>e=.returned (.tuple #[])/\Hid (Bd B v w' b c g m):=
 c0k B v w b c g m ⟨op,x,y,z,n⟩ (by refine⟨?_,?_,?_,?_,?_⟩ <;> simp only <;> omega) h
theorem bact(B:Nat)(v w:World)(b c g m:Nat)(h:Bd B v w b c g m)(hm:m<=9999999):
  Calls Tryz.prog 117 #[.pointer (some ⟨b,0,none⟩)] w λe w'=>e=.returned (.tuple #[])/\Hid (Bd B v w' b c g (m+14)):=by
 have BD:=uU h;have b0:=h.c0;clear h;go_enter Tryz.func117,Tryz.ntmps117;go_wp2_with (first | (go_at_call 54;refine(zK B v _ b c g _ _ BD (by omega) (by omega) (by omega)).mono ?_;rintro e w1 ⟨r,he,r0,r1,bd⟩;have e2:=uH he;subst e2;clear he;clear b0 BD;have BD:=bd;have b0:=BD.c0;clear bd) | (go_at_call 194;refine(a1e B v _ b c g _ _ _ _ _ (by omega) (by omega) (by omega) (by omega) BD).mono ?_;rintro e w1 ⟨rfl,bd⟩;clear b0 BD;have BD:=bd;have b0:=BD.c0;clear bd) | (go_at_call 193;refine(bsize B v _ b c g _ BD (by omega)).mono ?_;rintro e w1 ⟨r,he,r0,r1,bd⟩;have e2:=uH he;subst e2;clear he;clear b0 BD;have BD:=bd;have b0:=BD.c0;clear bd) | (go_at_call 197;refine(c0m B v _ b c g _ _ (by omega) (by omega) BD (by omega)).mono ?_;rintro e w1 ⟨r,he,r0,r1,bd⟩;have e2:=uH he;subst e2;clear he;clear b0 BD;have BD:=bd;have b0:=BD.c0;clear bd) | (go_at_call 198;refine(bpairsI B v _ b c g _ _ (by omega) (by omega) BD).mono ?_;rintro e w1 ⟨r,he,r0,r1,bd⟩;have e2:=uH he;subst e2;clear he;clear b0 BD;have BD:=bd;have b0:=BD.c0;clear bd) | (go_at_call 196;refine(bwhole B v _ b c g _ BD (by omega)).mono ?_;rintro e w1 ⟨r,he,r0,bd⟩;have e2:=uH he;subst e2;clear he;clear b0 BD;have BD:=bd;have b0:=BD.c0;clear bd) | (go_at_call 195;refine(emitI B v _ b c g _ _ _ _ _ _ (by omega) (by omega) (by omega) (by omega) (by omega) BD).mono ?_;rintro e w1 ⟨rfl,bd⟩;clear b0 BD;have BD:=bd;have b0:=BD.c0;clear bd))
 all_goals
  go_end0
  exact⟨rfl,BD.more (by omega)⟩
theorem bchain(B:Nat)(v w:World)(b c g m:Nat)(n:Int)(h:Bd B v w b c g m)(hm:m<=9999999)(n0:0<=n)(n1:n<=5):
  Calls Tryz.prog 152 #[.pointer (some ⟨b,0,none⟩),iv n] w λe w'=>e=.returned (.tuple #[])/\Hid (Bd B v w' b c g (m+100)):=by
 have BD:=uU h;have b0:=h.c0;clear h;go_enter Tryz.func152,Tryz.ntmps152;go_wp2_with (first | (go_at_call 54;refine(zK B v _ b c g _ _ BD (by omega) (by omega) (by omega)).mono ?_;rintro e w1 ⟨r,he,r0,r1,bd⟩;have e2:=uH he;subst e2;clear he;clear b0 BD;have BD:=bd;have b0:=BD.c0;clear bd) | (go_at_call 194;refine(a1e B v _ b c g _ _ _ _ _ (by omega) (by omega) (by omega) (by omega) BD).mono ?_;rintro e w1 ⟨rfl,bd⟩;clear b0 BD;have BD:=bd;have b0:=BD.c0;clear bd));go_loopw [4] (λi wr=>∃k:Nat,(k:Int)<=n/\i=.int .i64 k/\Hid (Bd B v wr b c g (m+4+k*12))) (λi _=>(n-intOf i).toNat)
 case atStart=>exact⟨0,by omega,rfl,BD.more (by omega)⟩
 case round=>
  clear b0 BD;obtain⟨k,hk,rfl,BD⟩:=hrel;have b0:=BD.c0;by_cases hlt:(k:Int)<n
  ·go_wp2_with (first | (go_at_call 54;refine(zK B v _ b c g _ _ BD (by omega) (by omega) (by omega)).mono ?_;rintro e w1 ⟨r,he,r0,r1,bd⟩;have e2:=uH he;subst e2;clear he;clear b0 BD;have BD:=bd;have b0:=BD.c0;clear bd) | (go_at_call 194;refine(a1e B v _ b c g _ _ _ _ _ (by omega) (by omega) (by omega) (by omega) BD).mono ?_;rintro e w1 ⟨rfl,bd⟩;clear b0 BD;have BD:=bd;have b0:=BD.c0;clear bd) | (go_at_call 156;refine(a8h B v _ b c g _ BD (by omega)).mono ?_;rintro e w1 ⟨rfl,bd⟩;clear b0 BD;have BD:=bd;have b0:=BD.c0;clear bd))
   all_goals
    go_roundw
    ·exact⟨k+1,by omega,by go_num,BD.more (by omega)⟩
    ·simp [intOf];omega
  ·go_wp2_with (first | (go_at_call 54;refine(zK B v _ b c g _ _ BD (by omega) (by omega) (by omega)).mono ?_;rintro e w1 ⟨r,he,r0,r1,bd⟩;have e2:=uH he;subst e2;clear he;clear b0 BD;have BD:=bd;have b0:=BD.c0;clear bd) | (go_at_call 194;refine(a1e B v _ b c g _ _ _ _ _ (by omega) (by omega) (by omega) (by omega) BD).mono ?_;rintro e w1 ⟨rfl,bd⟩;clear b0 BD;have BD:=bd;have b0:=BD.c0;clear bd))
   all_goals
    go_end0
    exact⟨rfl,BD.more (by omega)⟩
theorem bweakly(B:Nat)(v w:World)(b c g m:Nat)(h:Bd B v w b c g m)(hm:m<=9999999):
  Calls Tryz.prog 153 #[.pointer (some ⟨b,0,none⟩)] w λe w'=>e=.returned (.tuple #[])/\Hid (Bd B v w' b c g (m+100)):=by
 have BD:=uU h;have b0:=h.c0;clear h;go_enter Tryz.func153,Tryz.ntmps153;go_wp2_with fail;refine(zK B v _ b c g _ _ BD (by omega) (by omega) (by omega)).mono ?_;rintro e w1 ⟨n,he,n0,n1,bd⟩;have e2:=uH he;subst e2;clear he;clear b0 BD;have BD:=bd;have b0:=BD.c0;clear bd;go_wp2_with (first | (go_at_call 54;refine(zK B v _ b c g _ _ BD (by omega) (by omega) (by omega)).mono ?_;rintro e w1 ⟨r,he,r0,r1,bd⟩;have e2:=uH he;subst e2;clear he;clear b0 BD;have BD:=bd;have b0:=BD.c0;clear bd) | (go_at_call 194;refine(a1e B v _ b c g _ _ _ _ _ (by omega) (by omega) (by omega) (by omega) BD).mono ?_;rintro e w1 ⟨rfl,bd⟩;clear b0 BD;have BD:=bd;have b0:=BD.c0;clear bd));go_loopw [3,4,5] (λi _x _y wr=>∃k:Nat,(k:Int)<=1+n/\i=.int .i64 k/\Hid (Bd B v wr b c g (m+8+k*20))) (λi _x _y _=>(1+n-intOf i).toNat)
 case atStart=>exact⟨0,by omega,rfl,BD.more (by omega)⟩
 case round=>
  clear b0 BD;obtain⟨k,hk,rfl,BD⟩:=hrel;have b0:=BD.c0;by_cases hlt:(k:Int)<1+n
  ·go_wp2_with (first | (go_at_call 54;refine(zK B v _ b c g _ _ BD (by omega) (by omega) (by omega)).mono ?_;rintro e w1 ⟨r,he,r0,r1,bd⟩;have e2:=uH he;subst e2;clear he;clear b0 BD;have BD:=bd;have b0:=BD.c0;clear bd) | (go_at_call 194;refine(a1e B v _ b c g _ _ _ _ _ (by omega) (by omega) (by omega) (by omega) BD).mono ?_;rintro e w1 ⟨rfl,bd⟩;clear b0 BD;have BD:=bd;have b0:=BD.c0;clear bd) | (go_at_call 156;refine(a8h B v _ b c g _ BD (by omega)).mono ?_;rintro e w1 ⟨rfl,bd⟩;clear b0 BD;have BD:=bd;have b0:=BD.c0;clear bd))
   all_goals
    go_roundw
    ·exact⟨k+1,by omega,by go_num,BD.more (by omega)⟩
    ·simp [intOf];omega
  ·go_wp2_with (first | (go_at_call 54;refine(zK B v _ b c g _ _ BD (by omega) (by omega) (by omega)).mono ?_;rintro e w1 ⟨r,he,r0,r1,bd⟩;have e2:=uH he;subst e2;clear he;clear b0 BD;have BD:=bd;have b0:=BD.c0;clear bd) | (go_at_call 194;refine(a1e B v _ b c g _ _ _ _ _ (by omega) (by omega) (by omega) (by omega) BD).mono ?_;rintro e w1 ⟨rfl,bd⟩;clear b0 BD;have BD:=bd;have b0:=BD.c0;clear bd))
   all_goals
    go_end0
    exact⟨rfl,BD.more (by omega)⟩
theorem bring(B:Nat)(v w:World)(b c g m:Nat)(h:Bd B v w b c g m)(hm:m<=9999999):
  Calls Tryz.prog 155 #[.pointer (some ⟨b,0,none⟩)] w λe w'=>e=.returned (.tuple #[])/\Hid (Bd B v w' b c g (m+60)):=by
 have BD:=uU h;have b0:=h.c0;clear h;go_enter Tryz.func155,Tryz.ntmps155;go_wp2_with (first | (go_at_call 54;refine(zK B v _ b c g _ _ BD (by omega) (by omega) (by omega)).mono ?_;rintro e w1 ⟨r,he,r0,r1,bd⟩;have e2:=uH he;subst e2;clear he;clear b0 BD;have BD:=bd;have b0:=BD.c0;clear bd) | (go_at_call 194;refine(a1e B v _ b c g _ _ _ _ _ (by omega) (by omega) (by omega) (by omega) BD).mono ?_;rintro e w1 ⟨rfl,bd⟩;clear b0 BD;have BD:=bd;have b0:=BD.c0;clear bd) | (go_at_call 156;refine(a8h B v _ b c g _ BD (by omega)).mono ?_;rintro e w1 ⟨rfl,bd⟩;clear b0 BD;have BD:=bd;have b0:=BD.c0;clear bd));go_loopw [2] (λi wr=>∃k:Nat,k<=4/\i=.int .i64 k/\Hid (Bd B v wr b c g (m+8+k*4))) (λi _=>(4-intOf i).toNat)
 case atStart=>exact⟨1,by omega,rfl,BD.more (by omega)⟩
 case round=>
  clear b0 BD;obtain⟨k,hk,rfl,BD⟩:=hrel;have b0:=BD.c0;by_cases hlt:(k:Int)<4
  ·go_wp2_with (first | (go_at_call 54;refine(zK B v _ b c g _ _ BD (by omega) (by omega) (by omega)).mono ?_;rintro e w1 ⟨r,he,r0,r1,bd⟩;have e2:=uH he;subst e2;clear he;clear b0 BD;have BD:=bd;have b0:=BD.c0;clear bd) | (go_at_call 194;refine(a1e B v _ b c g _ _ _ _ _ (by omega) (by omega) (by omega) (by omega) BD).mono ?_;rintro e w1 ⟨rfl,bd⟩;clear b0 BD;have BD:=bd;have b0:=BD.c0;clear bd) | (go_at_call 156;refine(a8h B v _ b c g _ BD (by omega)).mono ?_;rintro e w1 ⟨rfl,bd⟩;clear b0 BD;have BD:=bd;have b0:=BD.c0;clear bd))
   all_goals
    go_roundw
    ·exact⟨k+1,by omega,by go_num,BD.more (by omega)⟩
    ·simp [intOf];omega
  ·go_wp2_with (first | (go_at_call 54;refine(zK B v _ b c g _ _ BD (by omega) (by omega) (by omega)).mono ?_;rintro e w1 ⟨r,he,r0,r1,bd⟩;have e2:=uH he;subst e2;clear he;clear b0 BD;have BD:=bd;have b0:=BD.c0;clear bd) | (go_at_call 194;refine(a1e B v _ b c g _ _ _ _ _ (by omega) (by omega) (by omega) (by omega) BD).mono ?_;rintro e w1 ⟨rfl,bd⟩;clear b0 BD;have BD:=bd;have b0:=BD.c0;clear bd) | (go_at_call 156;refine(a8h B v _ b c g _ BD (by omega)).mono ?_;rintro e w1 ⟨rfl,bd⟩;clear b0 BD;have BD:=bd;have b0:=BD.c0;clear bd))
   all_goals
    go_end0
    exact⟨rfl,BD.more (by omega)⟩
theorem blastly(B:Nat)(v w:World)(b c g m:Nat)(h:Bd B v w b c g m)(hm:m<=9999999):
  Calls Tryz.prog 154 #[.pointer (some ⟨b,0,none⟩)] w λe w'=>e=.returned (.tuple #[])/\Hid (Bd B v w' b c g (m+150)):=by
 have BD:=uU h;have b0:=h.c0;clear h;go_enter Tryz.func154,Tryz.ntmps154;go_wp2_with (go_at_call 54;refine(zK B v _ b c g _ _ BD (by omega) (by omega) (by omega)).mono ?_;rintro e w1 ⟨r,he,r0,r1,bd⟩;have e2:=uH he;subst e2;clear he;clear b0 BD;have BD:=bd;have b0:=BD.c0;clear bd);go_loopw [2] (λi wr=>∃k:Nat,k<=3/\i=.int .i64 k/\Hid (Bd B v wr b c g (m+2+(3-k)*12))) (λi _=>(intOf i).toNat)
 case atStart=>exact⟨(1+r).toNat,by omega,by rw[Int.toNat_of_nonneg (by omega)],BD.more (by omega)⟩
 case round=>
  clear b0 BD;obtain⟨k,hk,rfl,BD⟩:=hrel;have b0:=BD.c0;by_cases hlt:(k:Int) > 0
  ·go_wp2_with (first | (go_at_call 54;refine(zK B v _ b c g _ _ BD (by omega) (by omega) (by omega)).mono ?_;rintro e w1 ⟨r,he,r0,r1,bd⟩;have e2:=uH he;subst e2;clear he;clear b0 BD;have BD:=bd;have b0:=BD.c0;clear bd) | (go_at_call 194;refine(a1e B v _ b c g _ _ _ _ _ (by omega) (by omega) (by omega) (by omega) BD).mono ?_;rintro e w1 ⟨rfl,bd⟩;clear b0 BD;have BD:=bd;have b0:=BD.c0;clear bd) | (go_at_call 156;refine(a8h B v _ b c g _ BD (by omega)).mono ?_;rintro e w1 ⟨rfl,bd⟩;clear b0 BD;have BD:=bd;have b0:=BD.c0;clear bd))
   all_goals
    go_roundw
    ·exact⟨k-1,by omega,by rw[Int.ofNat_sub (by omega)];rfl,BD.more (by omega)⟩
    ·simp [intOf];omega
  ·have hk0:k=0:=by omega
   subst hk0;go_wp2_with (first | (go_at_call 54;refine(zK B v _ b c g _ _ BD (by omega) (by omega) (by omega)).mono ?_;rintro e w1 ⟨r,he,r0,r1,bd⟩;have e2:=uH he;subst e2;clear he;clear b0 BD;have BD:=bd;have b0:=BD.c0;clear bd) | (go_at_call 194;refine(a1e B v _ b c g _ _ _ _ _ (by omega) (by omega) (by omega) (by omega) BD).mono ?_;rintro e w1 ⟨rfl,bd⟩;clear b0 BD;have BD:=bd;have b0:=BD.c0;clear bd));go_loopw [3,4] (λi _x wr=>∃k:Nat,k<=3/\i=.int .i64 k/\Hid (Bd B v wr b c g (m+40+(3-k)*20))) (λi _ _=>(intOf i).toNat)
   case atStart=>exact⟨r.toNat,by omega,by rw[Int.toNat_of_nonneg (by omega)],BD.more (by omega)⟩
   case round=>
    clear b0 BD;obtain⟨k,hk,rfl,BD⟩:=hrel;have b0:=BD.c0;by_cases hlt:(k:Int) > 0
    ·go_wp2_with (first | (go_at_call 54;refine(zK B v _ b c g _ _ BD (by omega) (by omega) (by omega)).mono ?_;rintro e w1 ⟨r,he,r0,r1,bd⟩;have e2:=uH he;subst e2;clear he;clear b0 BD;have BD:=bd;have b0:=BD.c0;clear bd) | (go_at_call 194;refine(a1e B v _ b c g _ _ _ _ _ (by omega) (by omega) (by omega) (by omega) BD).mono ?_;rintro e w1 ⟨rfl,bd⟩;clear b0 BD;have BD:=bd;have b0:=BD.c0;clear bd) | (go_at_call 156;refine(a8h B v _ b c g _ BD (by omega)).mono ?_;rintro e w1 ⟨rfl,bd⟩;clear b0 BD;have BD:=bd;have b0:=BD.c0;clear bd) | (go_at_call 197;refine(c0m B v _ b c g _ _ (by omega) (by omega) BD (by omega)).mono ?_;rintro e w1 ⟨r,he,r0,r1,bd⟩;have e2:=uH he;subst e2;clear he;clear b0 BD;have BD:=bd;have b0:=BD.c0;clear bd))
     all_goals
      go_roundw
      ·exact⟨k-1,by omega,by rw[Int.ofNat_sub (by omega)];rfl,BD.more (by omega)⟩
      ·simp [intOf];omega
    ·go_wp2_with (first | (go_at_call 54;refine(zK B v _ b c g _ _ BD (by omega) (by omega) (by omega)).mono ?_;rintro e w1 ⟨r,he,r0,r1,bd⟩;have e2:=uH he;subst e2;clear he;clear b0 BD;have BD:=bd;have b0:=BD.c0;clear bd) | (go_at_call 194;refine(a1e B v _ b c g _ _ _ _ _ (by omega) (by omega) (by omega) (by omega) BD).mono ?_;rintro e w1 ⟨rfl,bd⟩;clear b0 BD;have BD:=bd;have b0:=BD.c0;clear bd))
     all_goals
      go_end0
      exact⟨rfl,BD.more (by omega)⟩
theorem bsome(B:Nat)(v w:World)(b c g m:Nat)(h:Bd B v w b c g m)(hm:m<=999999):
  Calls Tryz.prog 95 #[.pointer (some ⟨b,0,none⟩)] w λe w'=>e=.returned (.tuple #[])/\Hid (Bd B v w' b c g (m+300)):=by
 have BD:=uU h;have b0:=h.c0;clear h;go_enter Tryz.func95,Tryz.ntmps95;go_wp2_with (first | (go_at_call 54;refine(zK B v _ b c g _ _ BD (by omega) (by omega) (by omega)).mono ?_;rintro e w1 ⟨r,he,r0,r1,bd⟩;have e2:=uH he;subst e2;clear he;clear b0 BD;have BD:=bd;have b0:=BD.c0;clear bd) | (go_at_call 152;refine(bchain B v _ b c g _ _ BD (by omega) (by omega) (by omega)).mono ?_;rintro e w1 ⟨rfl,bd⟩;clear b0 BD;have BD:=bd;have b0:=BD.c0;clear bd) | (go_at_call 153;refine(bweakly B v _ b c g _ BD (by omega)).mono ?_;rintro e w1 ⟨rfl,bd⟩;clear b0 BD;have BD:=bd;have b0:=BD.c0;clear bd) | (go_at_call 154;refine(blastly B v _ b c g _ BD (by omega)).mono ?_;rintro e w1 ⟨rfl,bd⟩;clear b0 BD;have BD:=bd;have b0:=BD.c0;clear bd) | (go_at_call 155;refine(bring B v _ b c g _ BD (by omega)).mono ?_;rintro e w1 ⟨rfl,bd⟩;clear b0 BD;have BD:=bd;have b0:=BD.c0;clear bd) | (go_at_call 156;refine(a8h B v _ b c g _ BD (by omega)).mono ?_;rintro e w1 ⟨rfl,bd⟩;clear b0 BD;have BD:=bd;have b0:=BD.c0;clear bd))
 iterate 4
  ·go_end0
   exact⟨rfl,BD.more (by omega)⟩
 go_loopw [3] (λi wr=>∃k:Nat,k<=9/\i=.int .i64 k/\Hid (Bd B v wr b c g (m+4+(9-k)*20))) (λi _=>(intOf i).toNat)
 case atStart=>exact⟨(2+r).toNat,by omega,by rw[Int.toNat_of_nonneg (by omega)],BD.more (by omega)⟩
 case round=>
  clear b0 BD;obtain⟨k,hk,rfl,BD⟩:=hrel;have b0:=BD.c0;by_cases hlt:(k:Int) > 0
  ·go_wp2_with (first | (go_at_call 117;refine(bact B v _ b c g _ BD (by omega)).mono ?_;rintro e w1 ⟨rfl,bd⟩;clear b0 BD;have BD:=bd;have b0:=BD.c0;clear bd) | (go_at_call 156;refine(a8h B v _ b c g _ BD (by omega)).mono ?_;rintro e w1 ⟨rfl,bd⟩;clear b0 BD;have BD:=bd;have b0:=BD.c0;clear bd));go_roundw
   ·exact⟨k-1,by omega,by rw[Int.ofNat_sub (by omega)];rfl,BD.more (by omega)⟩
   ·simp [intOf];omega
  ·go_wp2_with (go_at_call 156;refine(a8h B v _ b c g _ BD (by omega)).mono ?_;rintro e w1 ⟨rfl,bd⟩;clear b0 BD;have BD:=bd;have b0:=BD.c0;clear bd)
   go_end0
   exact⟨rfl,BD.more (by omega)⟩
def zw(n:Nat):Array Value:=Array.replicate n (iv 0)
theorem mk16(w:World):(Instr.makeSlice 30 (.int .i64 16) (.int .i64 16)).run Tryz.prog w=.ok (.slice (some ⟨w.heap.size,0,none⟩) 16 16) (w.alloc (.cells (zw 48) 152)):=by kernel_rfl
theorem c0n(n:Int)(w:World):Calls Tryz.prog 151 #[.int .i64 n] w λe w'=>e=.returned (.pointer (some ⟨w.heap.size+1,0,none⟩))/\w'=(w.alloc (.cells (zw 48) 152)).alloc (.cells #[iv n,iv 0,iv 0,.slice (some ⟨w.heap.size,0,none⟩) 16 16,.slice none 0 0,iv 0,iv 0,iv 0,.slice none 0 0,iv 0,iv 0,iv 0,iv 0] 34):=by
 have hmk:=mk16;go_enter Tryz.func151,Tryz.ntmps151
 go_wp2
 go_ret;exact⟨rfl,rfl⟩
def frH(n:Int):Hp:=⟨n,0,0,List.replicate 16 ⟨0,0,0⟩,[],0,0,0,[],0,0,0,0⟩
theorem frH_snd(n:Int)(h1:1<=n)(h2:n<=4000):Snd (frH n):=by
 have hc:(frH n).cells=[]:=rfl;refine⟨⟨⟨h1,h2⟩,by simp [frH],by simp [frH];omega,by simp [frH],by simp [frH],by simp [frH],by simp [frH],by simp [frH],by simp [frH],by simp [frH],by simp [frH],by simp [frH]⟩,⟨λi hi=>by simp [hc] at hi,λi hi=>by simp [hc] at hi⟩,⟨by simp [frH,dQ],by simp [frH];omega⟩,⟨λi hi=>?_,λi hi=>by simp [hc] at hi⟩,⟨λ_=>rfl,λi hi=>by simp [hc] at hi,λq hq=>by simp [frH] at hq⟩,⟨λ_=>⟨rfl,rfl⟩,λe=>by simp [frH] at e,λe=>by simp [frH] at e,λ_=>rfl⟩,λ_ i hi=>by simp [hc] at hi,λi hi=>by simp [hc] at hi⟩;have e:(frH n).regs[i]=⟨0,0,0⟩:=List.eq_of_mem_replicate (n:=16) (List.getElem_mem hi);rw[e];exact⟨.inl ⟨rfl,rfl,rfl⟩,λh=>by cases h⟩
theorem zw_cell(w:World)(t:TypeId)(j:Nat)(hj:j<48):(w.alloc (.cells (zw 48) t)).cell? ⟨w.heap.size,j,none⟩=some (iv 0):=by
 have:=heap_alloc_new w (.cells (zw 48) t);unfold World.cell?;simp only [this];simp [zw,hj]
theorem b2k(w:World)(c:Array Value)(t:TypeId):Nf1 w.heap.size (w.alloc (.cells c t)):=⟨by simp [go_sem],λj=>by simp [go_sem]⟩
theorem c9t(S:Nat->Prop)(n:Int)(w:World)(hS:∀q,S q->q<w.heap.size):GG S w.heap.size ((w.alloc (.cells (zw 48) 152)).alloc (.cells #[iv n,iv 0,iv 0,.slice (some ⟨w.heap.size,0,none⟩) 16 16,.slice none 0 0,iv 0,iv 0,iv 0,.slice none 0 0,iv 0,iv 0,iv 0,iv 0] 34)) (w.heap.size+1) (frH n):=by
 have x0:=(Ext.refl w).alloc (.cells (zw 48) 152);have N0:=b2k w (zw 48) 152;have Z:=λj hj=>zw_cell w 152 j hj
 obtain⟨W0,h0⟩:∃W0,W0=w.alloc (.cells (zw 48) 152):=⟨_,rfl⟩;rw[<-h0] at x0 N0 Z ⊢;have s0:W0.heap.size=w.heap.size+1:=by rw[h0];simp [go_sem]
 clear h0;have x1:=(Ext.refl W0).alloc (.cells #[iv n,iv 0,iv 0,.slice (some ⟨w.heap.size,0,none⟩) 16 16,.slice none 0 0,iv 0,iv 0,iv 0,.slice none 0 0,iv 0,iv 0,iv 0,iv 0] 34);have N1:=b2k W0 #[iv n,iv 0,iv 0,.slice (some ⟨w.heap.size,0,none⟩) 16 16,.slice none 0 0,iv 0,iv 0,iv 0,.slice none 0 0,iv 0,iv 0,iv 0,iv 0] 34;have HB:=dY.new W0 (frH n) (.slice (some ⟨w.heap.size,0,none⟩) 16 16) (.slice none 0 0) (.slice none 0 0) 34;rw[s0] at N1 HB;obtain⟨W1,h1⟩:∃W1,W1=W0.alloc (.cells #[iv n,iv 0,iv 0,.slice (some ⟨w.heap.size,0,none⟩) 16 16,.slice none 0 0,iv 0,iv 0,iv 0,.slice none 0 0,iv 0,iv 0,iv 0,iv 0] 34):=⟨_,rfl⟩;have HB:dY (W0.alloc (.cells #[iv n,iv 0,iv 0,.slice (some ⟨w.heap.size,0,none⟩) 16 16,.slice none 0 0,iv 0,iv 0,iv 0,.slice none 0 0,iv 0,iv 0,iv 0,iv 0] 34)) (w.heap.size+1) (frH n) (.slice (some ⟨w.heap.size,0,none⟩) 16 16) (.slice none 0 0) (.slice none 0 0):=HB;rw[<-h1] at x1 N1 HB ⊢;clear h1;have e:(frH n).regs.length=16:=by simp [frH]
 have ec:(frH n).cells=[]:=rfl;refine⟨λq=>if q<w.heap.size then W1.heap[q]? else none,λq hq=>?_,some ⟨w.heap.size,0,none⟩,16,none,0,.slice none 0 0,w.heap.size,0,λ_=>0,λ_=>none,λ_=>0,λq=>if q=w.heap.size+1 then 0 else if q=w.heap.size then 2 else 1,?_⟩
 ·have:=hS q hq;simp only [this,if_true];exact a5g (by have:=x1.size;omega)
 ·letI:Inhabited uZ:=⟨⟨λq=>if q<w.heap.size then W1.heap[q]? else none⟩⟩
  refine⟨by rw[e];exact HB,N1,by omega,λ_=>rfl,λh=>by simp [ec] at h,⟨λi hi=>?_,λq hq=>by simp [ec] at hq,λq hq=>by simp [ec] at hq,λq hq=>by simp [ec] at hq,λq hq=>by simp [ec] at hq,λ_=>⟨N0.ext x1,Nat.le_refl _⟩,λh=>by simp [ec] at h,λh=>by simp [ec] at h,λq _ hq=>by simp [ec] at hq,λq hq=>by simp [ec] at hq⟩,.inl ⟨rfl,rfl⟩,⟨if_pos rfl,λ_=>by rw[if_neg (by omega),if_pos rfl],λh=>by simp [ec] at h,λq hq=>by simp [Value.ownBlock] at hq,λq hq=>by simp [ec] at hq⟩,by simp [ec],λq o hq=>?_,λh=>by omega⟩
  ·have hi2:i<16:=e ▸ hi;have e3:(frH n).regs[i]=⟨0,0,0⟩:=List.eq_of_mem_replicate (n:=16) (List.getElem_mem hi);exact(congrArg (yC W1 w.heap.size (i*3)) e3).mpr ⟨x1.keep (Z _ (by omega)),x1.keep (Z _ (by omega)),x1.keep (Z _ (by omega))⟩
  ·have hq:(if q<w.heap.size then W1.heap[q]? else none)=some o:=hq
   split at hq
   ·exact⟨by rw[if_neg (by omega),if_neg (by omega)],hq⟩
   ·cases hq
theorem c6q(v w:World)(c m:Nat)(h:Cu v w c m)(hm:m<=99999):
  Calls Tryz.prog 93 #[.pointer (some ⟨c,0,none⟩)] w λe w'=>∃r:Int,Hid (e=.returned (iv r))/\1<=r/\r<=4000/\Hid (Cu v w' c (m+4)):=by
 have CU:=uU h;clear h;go_enter Tryz.func93,Tryz.ntmps93;go_wp2_with (go_at_call 54;refine(b7g v _ c _ _ CU (by omega) (by omega) (by omega)).mono ?_;rintro e w1 ⟨r,he,r0,r1,cu,o⟩;have e2:=uH he;subst e2;clear he o CU;have CU:=cu;clear cu)
 all_goals
  go_ret;exact⟨_,rfl,by omega,by omega,CU⟩
theorem c2p(v w:World)(c m:Nat)(n:Int)(h1:1<=n)(h2:n<=4000)(h:Cu v w c m):
  Calls Tryz.prog 94 #[.pointer (some ⟨c,0,none⟩),iv n] w λe w'=>∃b g B,Hid (e=.returned (.pointer (some ⟨b,0,none⟩)))/\Hid (Bd B v w' b c g m):=by
 have CU:=uU h;have GF:=uU (c9t (λq=>q=c) n w (λq e=>by have:=h.2.2.1.1;omega));have XF:=uU (((Ext.refl w).alloc (.cells (zw 48) 152)).alloc (.cells #[iv n,iv 0,iv 0,.slice (some ⟨w.heap.size,0,none⟩) 16 16,.slice none 0 0,iv 0,iv 0,iv 0,.slice none 0 0,iv 0,iv 0,iv 0,iv 0] 34));have SF:=uU (show((w.alloc (.cells (zw 48) 152)).alloc (.cells #[iv n,iv 0,iv 0,.slice (some ⟨w.heap.size,0,none⟩) 16 16,.slice none 0 0,iv 0,iv 0,iv 0,.slice none 0 0,iv 0,iv 0,iv 0,iv 0] 34)).heap.size=w.heap.size+2 by simp [go_sem]);clear h;have Q:=uU (c0n n w);go_enter Tryz.func94,Tryz.ntmps94;go_wp2_with fail;refine Q.mono ?_;rintro e w1 ⟨rfl,hw⟩;rw[<-hw] at GF XF SF;clear hw Q;go_wp2_with fail;go_ret;have xb:=(Ext.refl w1).alloc (.cells #[.pointer (some ⟨c,0,none⟩),.pointer (some ⟨w.heap.size+1,0,none⟩),.slice none 0 0,iv 400] 145);have nb:=b2k w1 #[.pointer (some ⟨c,0,none⟩),.pointer (some ⟨w.heap.size+1,0,none⟩),.slice none 0 0,iv 400] 145;have hc:=CU.2.2.1.1;have hv:=CU.1.size;have hs:=uH SF;refine⟨w1.heap.size,w.heap.size+1,w.heap.size,rfl,frH n,[],.slice none 0 0,400,⟨frH_snd n h1 h2,λa ha=>(by simp at ha),by simp,CU.blk ((CU.1.trans XF).trans xb) (by rw[xb.block c (by omega)];exact XF.block c hc),hv,by omega,by omega,nb,by simp [go_sem],by simp [go_sem],by simp [go_sem],by simp [go_sem],World.ownsRow_nil _ _ _ _,by simp [Value.ownBlock],by simp [Value.ownBlock],GF.more xb (λq hq=>?_)⟩⟩;rcases hq with e | e | e
 ·exact .inr ⟨by omega,by rw[e];exact nb.1⟩
 ·exact .inl e
 ·simp [Value.ownBlock] at e
theorem a1x(h:Bd B v w b c g m):∃p:Int,w.cell? ⟨g,5,none⟩=some (iv p)/\
  Hid (p≠0->Calls Tryz.prog 116 #[.pointer (some ⟨g,0,none⟩)] w λe w'=>e=.returned (.tuple #[])/\Hid (Bd B v w' b c g m))/\
  Hid (p=0->Calls Tryz.prog 115 #[.pointer (some ⟨g,0,none⟩)] w λe w'=>e=.returned (.tuple #[])/\Hid (Bd B v w' b c g m)/\w'.cell? ⟨g,5,none⟩=some (iv 1)):=by
 obtain⟨x,L,va,lf,h⟩:=h;obtain⟨p,h1,h2⟩:=h.gg.call;refine⟨x.phase,h1.box.2.2.1,λe=>?_,λe=>?_⟩
 ·exact(a6d B g x w h1 h.s e v h.vB h.cu.1).mono λ_ w' ⟨e1,g1,x1⟩=>⟨e1,_,L,va,lf,h.blk x1 h.s.unit (h2 _ _ g1).1 (h2 _ _ g1).2⟩
 ·exact(a4q B g x w h1 v h.vB h.cu.1).mono λ_ w' ⟨e1,g1,x1⟩=>⟨e1,⟨_,L,va,lf,h.blk x1 (h.s.begin e) (h2 _ _ g1).1 (h2 _ _ g1).2⟩,g1.box.2.2.1⟩
def c9u(v:World)(c:Nat)(e:Ending)(w':World):Prop:=∃b g B m,Hid (e=.returned (.pointer (some ⟨g,0,none⟩)))/\Hid (Bd B v w' b c g m)/\m<=999999
theorem c6r(v w:World)(c m:Nat)(h:Cu v w c m)(hm:m<=9999):
  Calls Tryz.prog 69 #[.pointer (some ⟨c,0,none⟩)] w λe w'=>c9u v c e w':=by
 have CU:=uU h;clear h;go_enter Tryz.func69,Tryz.ntmps69;go_wp2_with fail;refine(c6q v w c m CU (by omega)).mono ?_;rintro e w1 ⟨n,he,n1,n2,CU⟩;have e2:=uH he;subst e2;go_wp2_with fail;refine(c2p v w1 c _ n n1 n2 CU).mono ?_;rintro e w2 ⟨b,g,B,he,BD⟩;have e2:=uH he;subst e2;clear he CU;have b0:=BD.c0;have b1:=BD.c1;obtain⟨p,c5,UN,BE⟩:=a1x BD;go_wp2_with fail;refine(zK B v _ b c g _ _ BD (by omega) (by omega) (by omega)).mono ?_;rintro e w1 ⟨ph,he,ph0,ph1,bd⟩;have e2:=uH he;subst e2;clear he;clear BD b0 b1 c5 UN BE;have BD:=bd;have b0:=BD.c0;have b1:=BD.c1;obtain⟨p,c5,UN,BE⟩:=a1x BD;clear bd;go_wp2_with (go_at_call 54;refine(zK B v _ b c g _ _ BD (by omega) (by omega) (by omega)).mono ?_;rintro e w1 ⟨r,he,r0,r1,bd⟩;have e2:=uH he;subst e2;clear he;clear BD b0 b1 c5 UN BE;have BD:=bd;have b0:=BD.c0;have b1:=BD.c1;obtain⟨p,c5,UN,BE⟩:=a1x BD;clear bd);go_loopw [5] (λi wr=>∃k:Nat,k<=8/\i=.int .i64 k/\Hid (Bd B v wr b c g (m+10+(8-k)*300))) (λi _=>(intOf i).toNat)
 case atStart=>exact⟨(1+r).toNat,by omega,by rw[Int.toNat_of_nonneg (by omega)],BD.more (by omega)⟩
 case round=>
  clear b0 b1 c5 UN BE BD;obtain⟨k,hk,rfl,BD⟩:=hrel;have b0:=BD.c0;have b1:=BD.c1;obtain⟨p,c5,UN,BE⟩:=a1x BD;by_cases hlt:(k:Int) > 0
  ·go_wp2_with (go_at_call 95;refine(bsome B v _ b c g _ BD (by omega)).mono ?_;rintro e w1 ⟨rfl,bd⟩;clear BD b0 b1 c5 UN BE;have BD:=bd;have b0:=BD.c0;have b1:=BD.c1;obtain⟨p,c5,UN,BE⟩:=a1x BD;clear bd);go_roundw
   ·exact⟨k-1,by omega,by rw[Int.ofNat_sub (by omega)];rfl,BD.more (by omega)⟩
   ·simp [intOf];omega
  ·go_upto_if 37 with(go_at_call 54;refine(zK B v _ b c g _ _ BD (by omega) (by omega) (by omega)).mono ?_;rintro e w1 ⟨r,he,r0,r1,bd⟩;have e2:=uH he;subst e2;clear he;clear BD b0 b1 c5 UN BE;have BD:=bd;have b0:=BD.c0;have b1:=BD.c1;obtain⟨p,c5,UN,BE⟩:=a1x BD;clear bd)
   ·go_ret;exact⟨b,g,B,_,rfl,BD,by omega⟩
   go_cut [] (λwx=>Hid (Bd B v wx b c g (m+3000)))
   case first=>
    cases t:(p == 0)
    ·go_wp2_with fail;go_meet;exact BD.more (by omega)
    ·go_wp2_with (go_at_call 115;refine(BE (by have:=‹(p == 0)=true›;simpa using this)).mono ?_;rintro e w1 ⟨rfl,bd,q5⟩;clear BD b0 b1 c5 UN BE;have BD:=bd;have b0:=BD.c0;have b1:=BD.c1;obtain⟨p,c5,UN,BE⟩:=a1x BD;clear bd;have pn:p≠0:=by rw[q5] at c5;simp at c5;omega);go_meet;exact BD.more (by omega)
   case rest=>
    clear b0 b1 c5 UN BE BD;have BD:=hcut;go_wp2_with fail;go_loopw [6] (λi wr=>∃k:Nat,k<=20000/\i=.int .i64 k/\Hid (Bd B v wr b c g (m+3000))) (λi _=>20000-(intOf i).toNat)
    case atStart=>exact⟨0,by omega,rfl,BD⟩
    case round=>
     clear BD;obtain⟨k,hk,rfl,BD⟩:=hrel;have b0:=BD.c0;have b1:=BD.c1;obtain⟨p,c5,UN,BE⟩:=a1x BD;obtain⟨W,hW⟩:∃W,W=wr:=⟨_,rfl⟩;subst hW
     go_upto_region 12 with(fail)
     go_cut [59] (λs wx=>wx=W/\∃t:Bool,s=.bool t/\Hid (t=true->(k:Int)<20000))
     case first=>
      rcases (show((k:Int)<20000/\(p != ph)=true/\ph<=6)\/((k:Int)<20000/\(p != ph)=true/\¬ph<=6)\/((k:Int)<20000/\(p != ph)=false)\/¬(k:Int)<20000 by cases (p != ph) <;> simp <;> omega) with⟨h1,h2,h3⟩ | ⟨h1,h2,h3⟩ | ⟨h1,h2⟩ | h1
      all_goals
       go_wp2_with fail;go_meet;exact⟨rfl,_,rfl,λe=>by first | omega | cases e⟩
     case rest=>
      obtain⟨rfl,t,rfl,ht⟩:=hcut;cases t
      ·go_wp2_with (go_at_call 54;refine(zK B v _ b c g _ _ BD (by omega) (by omega) (by omega)).mono ?_;rintro e w1 ⟨r,he,r0,r1,bd⟩;have e2:=uH he;subst e2;clear he;clear BD b0 b1 c5 UN BE;have BD:=bd;have b0:=BD.c0;have b1:=BD.c1;obtain⟨p,c5,UN,BE⟩:=a1x BD;clear bd);go_loopw [7] (λi wr=>∃k:Nat,k<=6/\i=.int .i64 k/\Hid (Bd B v wr b c g (m+4000+(6-k)*30))) (λi _=>(intOf i).toNat)
       case atStart=>exact⟨r.toNat,by omega,by rw[Int.toNat_of_nonneg (by omega)],BD.more (by omega)⟩
       case round=>
        clear b0 b1 c5 UN BE BD;obtain⟨k,hk,rfl,BD⟩:=hrel;have b0:=BD.c0;have b1:=BD.c1;obtain⟨p,c5,UN,BE⟩:=a1x BD;by_cases hlt:(k:Int) > 0
        ·go_wp2_with (first | (go_at_call 54;refine(zK B v _ b c g _ _ BD (by omega) (by omega) (by omega)).mono ?_;rintro e w1 ⟨r,he,r0,r1,bd⟩;have e2:=uH he;subst e2;clear he;clear BD b0 b1 c5 UN BE;have BD:=bd;have b0:=BD.c0;have b1:=BD.c1;obtain⟨p,c5,UN,BE⟩:=a1x BD;clear bd) | (go_at_call 117;refine(bact B v _ b c g _ BD (by omega)).mono ?_;rintro e w1 ⟨rfl,bd⟩;clear BD b0 b1 c5 UN BE;have BD:=bd;have b0:=BD.c0;have b1:=BD.c1;obtain⟨p,c5,UN,BE⟩:=a1x BD;clear bd) | (go_at_call 116;refine(UN (by first | exact pn | (have:=‹(p != 0)=true›;simpa using this) | (have:=‹(p == 0)=false›;simpa using this))).mono ?_;rintro e w1 ⟨rfl,bd⟩;clear BD b0 b1 c5 UN BE;have BD:=bd;have b0:=BD.c0;have b1:=BD.c1;obtain⟨p,c5,UN,BE⟩:=a1x BD;clear bd))
         all_goals
          go_roundw
          ·exact⟨k-1,by omega,by rw[Int.ofNat_sub (by omega)];rfl,BD.more (by omega)⟩
          ·simp [intOf];omega
        ·go_wp2_with fail;go_ret;exact⟨b,g,B,_,rfl,BD,by omega⟩
      ·have h1:=uH ht rfl
       go_upto_if 69 with(fail)
       go_cut [] (λwx=>Hid (Bd B v wx b c g (m+3000))/\∃q:Int,wx.cell? ⟨g,5,none⟩=some (iv q)/\q≠0)
       case first=>
        cases t:(p == 0)
        ·go_wp2_with fail;go_meet;exact⟨BD,p,c5,by simpa using t⟩
        ·go_wp2_with (go_at_call 115;refine(BE (by simpa using t)).mono ?_;rintro e w1 ⟨rfl,bd,q5⟩);go_meet;exact⟨bd,1,q5,by omega⟩
       case rest=>
        clear BD b0 b1 c5 UN BE;obtain⟨BD,q,q5,qn⟩:=hcut;have b0:=BD.c0;have b1:=BD.c1;obtain⟨p,c5,UN,BE⟩:=a1x BD;have pn:p≠0:=by rw[q5] at c5;simp at c5;omega
        go_wp2_with (go_at_call 116;refine(UN (by first | exact pn | (have:=‹(p != 0)=true›;simpa using this) | (have:=‹(p == 0)=false›;simpa using this))).mono ?_;rintro e w1 ⟨rfl,bd⟩;clear BD b0 b1 c5 UN BE;have BD:=bd;have b0:=BD.c0;have b1:=BD.c1;obtain⟨p,c5,UN,BE⟩:=a1x BD;clear bd);go_roundw
        ·exact⟨k+1,by omega,by go_num,BD⟩
        ·simp [intOf];omega
def ByAt(w:World)(v:Value):Prop:=∃(ad:Option Addr) (n k:Nat),v=.slice ad n k/\n<=1048576/\∀i,i<n->∃b o z,ad=some ⟨b,o,none⟩/\w.cell? ⟨b,o+i,none⟩=some (.int .u8 z)/\0<=z/\z<256
end Go.Proofs.YtddkhnclmeikfaaGreat
