import Derived.Test.YtddkhnclmeikfaaGreatUn11
import Derived.Test.YtddkhnclmeikfaaGreatImpB4
set_option maxRecDepth 100000
set_option maxHeartbeats 8000000
namespace Go.Proofs.YtddkhnclmeikfaaGreat
open Go.RowKit
attribute [local go_sem ↓] Go.wp_at_zero Go.wp_at_succ
variable{x:Hp}{w w' w1:World}{B g bc kr kc br j c bs k n i kg:Nat}{ar ac ag:Option Addr}{v vg v':Value}{T L0 L T':List Int}{pb pk role:Nat->Nat}{pa:Nat->Option Addr}{y:Wd}{p:Pr}{l:List Pr}{wk:Int}
def SK(c:Cl):Prop:=c.weak≠1/\c.weak≠3
def SV(c:Cl):Prop:=c.weak≠2/\c.weak≠3
def dK(x:Hp)(i:Nat):Prop:=∀P:Nat->Prop,(∀k (h:k<x.regs.length),x.regs[k].k=2->P (tgt x x.regs[k]))->(∀i,i<x.cells.length->(x.c i).last=2->P i)->
 (∀j p,P j->p<(x.c j).prs.length->SK (x.c j)->((x.c j).p p).key.k=2->P (tgt x ((x.c j).p p).key))->
 (∀j p,P j->p<(x.c j).prs.length->SV (x.c j)->(((x.c j).p p).key.k=2->P (tgt x ((x.c j).p p).key))->((x.c j).p p).val.k=2->P (tgt x ((x.c j).p p).val))->P i
theorem dK.reg(k:Nat)(h:k<x.regs.length)(hk:x.regs[k].k=2):dK x (tgt x x.regs[k]):=λ_ a _ _ _=>a k h hk
theorem dK.due(i:Nat)(hi:i<x.cells.length)(h:(x.c i).last=2):dK x i:=λ_ _ b _ _=>b i hi h
theorem dK.key(j p:Nat)(h:dK x j)(hp:p<(x.c j).prs.length)(hs:SK (x.c j))(hk:((x.c j).p p).key.k=2):dK x (tgt x ((x.c j).p p).key):=λP a b c d=>c j p (h P a b c d) hp hs hk
theorem dK.val(j p:Nat)(h:dK x j)(hp:p<(x.c j).prs.length)(hs:SV (x.c j))(hh:((x.c j).p p).key.k=2->dK x (tgt x ((x.c j).p p).key))(hk:((x.c j).p p).val.k=2):dK x (tgt x ((x.c j).p p).val):=λP a b c d=>d j p (h P a b c d) hp hs (λe=>hh e P a b c d) hk
theorem dK.reached(r2:R2 x)(h:dK x i):cY x i:=
 h (cY x) (λk h hk=>cY.reg k h hk) (λi hi hl=>cY.last i hi (a0x r2 i hi (.inr hl)) (.inr hl)) (λj p ih hp _ hk=>cY.key j p ih hp hk) (λj p ih hp _ _ hk=>cY.val j p ih hp hk)
theorem dK.good(r2:R2 x)(r4:R4 x)(h:dK x i):Good x i:=(h.reached r2).good r2 r4
def a9o(x:Hp)(L:List Int):Prop:=∀z,z∈L->∃i:Nat,z=(i:Int)/\dK x i
theorem a9o.add{L':List Int}(h:a9o x L)(a:Add x y L L')(hy:y.k=2->dK x (tgt x y)):a9o x L':=λz hz=>by
 rcases a.new hz with q | ⟨k,e⟩
 ·exact h z q
 ·exact⟨_,e,hy k⟩
def b8d(x:Hp)(k:Nat)(L:List Int):Prop:=∀i,i<k->i<x.cells.length->(x.c i).last=2->(i:Int)∈L
def qC(x:Hp)(L0:List Int)(j k:Nat)(T:List Int):Prop:=∀p,p<k->(SK (x.c j)->((x.c j).p p).key.k=2->(tgt x ((x.c j).p p).key:Int)∈T)/\(SV (x.c j)->(((x.c j).p p).key.k=2->(tgt x ((x.c j).p p).key:Int)∈L0)->((x.c j).p p).val.k=2->(tgt x ((x.c j).p p).val:Int)∈T)
theorem qC.mono(h:qC x L0 j k T)(s:∀z,z∈T->z∈T'):qC x L0 j k T':=λp hp=>⟨λa e=>s _ ((h p hp).1 a e),λa b e=>s _ ((h p hp).2 a b e)⟩
def ClH(x:Hp)(L0:List Int)(c:Nat)(T:List Int):Prop:=∀q,q<c->qC x L0 (it T q).toNat (x.c (it T q).toNat).prs.length T
theorem ClH.add(h:ClH x L0 c T)(a:Add x y T T')(hc:c<=T.length):ClH x L0 c T':=λq hq=>by
 obtain⟨R,e⟩:=a.pre;have e2:it T' q=it T q:=by rw[e];exact b0n (by omega)
 rw[e2];exact(h q hq).mono (λz hz=>a.sub hz)
structure tV(x:Hp)(L0:List Int)(c:Nat)(T:List Int):Prop where
 o:a9o x T
 r:a4e x x.regs.length T
 d:b8d x x.cells.length T
 e:∃R,T=L0++R
 c:ClH x L0 c T
theorem tV.add(h:tV x L0 c T)(a:Add x y T T')(hc:c<=T.length)(hy:y.k=2->dK x (tgt x y)):tV x L0 c T':=
 ⟨h.o.add a hy,λj hj hk e=>a.sub (h.r j hj hk e),λi hi hn e=>a.sub (h.d i hi hn e),by
  obtain⟨R,e⟩:=h.e;obtain⟨R',e'⟩:=a.pre;exact⟨R++R',by rw[e',e,List.append_assoc]⟩,h.c.add a hc⟩
theorem tV.step(h:tV x L0 c T)(e:it T c=(j:Int))(k:qC x L0 j (x.c j).prs.length T):tV x L0 (c+1) T:=
 ⟨h.o,h.r,h.d,h.e,λq hq=>by
  by_cases f:q=c
  ·subst f;rw[e];simpa using k
  ·exact h.c q (by omega)⟩
structure b8e(x:Hp)(n:Int)(L:List Int):Prop where
 o:a9o x L
 r:a4e x x.regs.length L
 d:b8d x x.cells.length L
 b:-1<=n/\n<=L.length
 c:n=L.length->ClH x L L.length L
theorem b8e.begin{n:Int}(h:b8e x n L):tV x L 0 L:=⟨h.o,h.r,h.d,⟨[],by simp⟩,λq hq=>by omega⟩
theorem tV.rest(h:tV x L0 T.length T):b8e x L0.length T:=by
 obtain⟨R,e⟩:=h.e;refine⟨h.o,h.r,h.d,⟨by omega,by rw[e];simp;omega⟩,λf=>?_⟩
 have:R=[]:=by
  have:(T.length:Int)=L0.length+R.length:=by rw[e];simp
  exact List.length_eq_zero_iff.1 (by omega)
 have e2:T=L0:=by rw[e,this];simp
 have:=h.c;rw[<-e2] at this;exact this
theorem b8e.done(h:b8e x L.length L)(i:Nat):(i:Int)∈L↔dK x i:=by
 constructor
 ·intro q;obtain⟨j,e,hj⟩:=h.o _ q;have:i=j:=by omega
  rw[this];exact hj
 ·intro q
  have cl:∀j:Nat,(j:Int)∈L->qC x L j (x.c j).prs.length L:=λj hj=>by
   obtain⟨q,hq,e⟩:=List.getElem_of_mem hj;have:=h.c rfl q hq;rw[<-a9a L q hq,e] at this
   simpa using this
  exact q (λi=>(i:Int)∈L) (λk hk e=>h.r k hk hk e) (λi hi e=>h.d i hi hi e) (λj p ih hp hs hk=>(cl j ih p hp).1 hs hk) (λj p ih hp hs hh hk=>(cl j ih p hp).2 hs hh hk)
def qW(x:Hp)(H:Nat->Bool)(y:Wd):Bool:=(zU x y).k == 2 && !H (zU x y).a.toNat
def wkB(c:Cl):Bool:=c.weak == 1 || c.weak == 3
def wvB(c:Cl):Bool:=c.weak == 2 || c.weak == 3
def goB(x:Hp)(H:Nat->Bool)(c:Cl)(p:Pr):Bool:=(wkB c && qW x H p.key) || (wvB c && qW x H p.val)
def yX(x:Hp)(H:Nat->Bool)(c:Cl)(l:List Pr):List Pr:=l.filter (λp=>!goB x H c p)
def eZ(x:Hp)(H:Nat->Bool)(c:Cl)(l:List Pr):Nat:=(l.filter (λp=>goB x H c p)).length
theorem a1z(x:Hp)(H:Nat->Bool)(c:Cl)(l:List Pr):(yX x H c l).length+eZ x H c l=l.length:=by
 unfold yX eZ
 induction l with
 | nil=>rfl
 | cons p l ih=>
  cases h:goB x H c p <;> simp [h] <;> omega
theorem b8f(x:Hp)(H:Nat->Bool)(c:Cl)(a b:List Pr):eZ x H c (a++b)=eZ x H c a+eZ x H c b:=by simp [eZ]
def uV(x:Hp):Int:=if x.phase=2/\0<x.gray.length then x.gray.getD 0 0 else if x.phase=5/\x.hand<x.cells.length then x.hand else -1
def yL(x:Hp)(H:Nat->Bool)(c:Cl):Cl:={ c with prs:=yX x H c c.prs }
def qH(x:Hp)(H:Nat->Bool)(i:Nat)(s:Int):Int:=if uV x=(i:Int) then s-eZ x H (x.c i) ((x.c i).prs.take s.toNat) else s
def cK(x:Hp)(H:Nat->Bool):Nat->Hp
 | 0=>x
 | k+1=>if H k=true then { cK x H k with cells:=(cK x H k).cells.set k (yL x H (x.c k)),used:=(cK x H k).used-eZ x H (x.c k) (x.c k).prs,sub:=qH x H k (cK x H k).sub } else cK x H k
def eC(x:Hp)(H:Nat->Bool):Nat->Nat
 | 0=>0
 | k+1=>if H k=true then eC x H k+eZ x H (x.c k) (x.c k).prs else eC x H k
def yU(x:Hp)(H:Nat->Bool)(i:Nat):Bool:=!H i && (x.c i).last == 1
def b1y(c:Cl):Cl:={ c with last:=2 }
def qK(x z:Hp)(H:Nat->Bool):Nat->Hp
 | 0=>z
 | k+1=>if yU x H k=true then { qK x z H k with cells:=(qK x z H k).cells.set k (b1y (x.c k)) } else qK x z H k
def tQ(x:Hp)(H:Nat->Bool):Nat->Nat
 | 0=>0
 | k+1=>if yU x H k=true then tQ x H k+1 else tQ x H k
def dD(x:Hp)(H:Nat->Bool):Hp:=qK x (cK x H x.cells.length) H x.cells.length
def b3c(x:Hp)(H:Nat->Bool)(i:Nat):Cl:=if H i=true then yL x H (x.c i) else if (x.c i).last=1 then b1y (x.c i) else x.c i
theorem a1p(x:Hp)(H:Nat->Bool):∀k,(cK x H k).cells.length=x.cells.length
 | 0=>rfl
 | k+1=>by
  unfold cK
  split
  ·simp [a1p x H k]
  ·exact a1p x H k
theorem a9p(x:Hp)(H:Nat->Bool):∀k,k<=x.cells.length->∀q,(cK x H k).c q=if q<k/\H q=true then yL x H (x.c q) else x.c q
 | 0,_,q=>by rw[if_neg (by omega)];rfl
 | k+1,hk,q=>by
  have ih:=a9p x H k (by omega) q;unfold cK;by_cases h:H k=true
  ·rw[if_pos h];have:=Hp.c_set (cK x H k) k (yL x H (x.c k)) (by rw[a1p];omega) q;have e:({ cK x H k with cells:=(cK x H k).cells.set k (yL x H (x.c k)),used:=(cK x H k).used-eZ x H (x.c k) (x.c k).prs,sub:=qH x H k (cK x H k).sub }:Hp).c q=({ cK x H k with cells:=(cK x H k).cells.set k (yL x H (x.c k)) }:Hp).c q:=rfl;rw[e,this];by_cases eq:q=k
   ·rw[if_pos eq,eq,if_pos ⟨by omega,h⟩]
   ·rw[if_neg eq,ih];by_cases h2:q<k/\H q=true
    ·rw[if_pos h2,if_pos ⟨by omega,h2.2⟩]
    ·rw[if_neg h2,if_neg (λh3=>h2 ⟨by omega,h3.2⟩)]
  ·rw[if_neg h,ih];by_cases h2:q<k/\H q=true
   ·rw[if_pos h2,if_pos ⟨by omega,h2.2⟩]
   ·rw[if_neg h2,if_neg (λh3=>by
     by_cases eq:q=k
     ·rw[eq] at h3;exact h h3.2
     ·exact h2 ⟨by omega,h3.2⟩)]
theorem GAt.prow[Inhabited uZ](h:GAt B w g x ar kr ac kc vg br bc pb pa pk role)(i:Nat)(hi:i<x.cells.length)(r0:0<x.regs.length)(L:List Pr)(qb:Nat)(qa:Option Addr)(qk:Nat)(o:uX (λq=>q=bc) w w')(nfc:Nf1 bc w')(c7:w'.cell? ⟨bc,i*8+7,none⟩=some (.slice qa L.length qk))(co:∀j,j≠i*8+7->w'.cell? ⟨bc,j,none⟩=w.cell? ⟨bc,j,none⟩)
  (hp:∀k,k<L.length->zW w' qb (k*6) (L.getD k Pr0)) (hkL:L.length<=qk) (hN:0<qk->qa=some ⟨qb,0,none⟩/\Nfp qb qk w'/\w.heap.size<=qb/\B<=qb) :
  GAt B w' g { x with cells:=x.cells.set i { x.c i with prs:=L } } ar kr ac kc vg br bc (λq=>if q=i then qb else pb q) (λq=>if q=i then qa else pa q) (λq=>if q=i then qk else pk q) (λd=>if w.heap.size<=d then 6+i else role d):=by
 have hn:0<x.cells.length:=by omega
 have far:∀q,q<w.heap.size->role q≠3->w'.heap[q]?=w.heap[q]?:=λq hq hr=>o.block q hq (λe=>hr (by rw[e];exact h.sp.c hn))
 have old:∀q,q<w.heap.size->(if w.heap.size<=q then 6+i else role q)=role q:=λq hq=>if_neg (by omega)
 have hl:({ x with cells:=x.cells.set i { x.c i with prs:=L } }:Hp).cells.length=x.cells.length:=by simp
 have hc:=Hp.c_set x i { x.c i with prs:=L } hi;have hne:∀q,q≠i->(({ x with cells:=x.cells.set i { x.c i with prs:=L } }:Hp).c q)=x.c q:=λq e=>by rw[hc q,if_neg e]
 have hei:(({ x with cells:=x.cells.set i { x.c i with prs:=L } }:Hp).c i)={ x.c i with prs:=L }:=by rw[hc i,if_pos rfl]
 have fg:=far g h.nf.1 (by rw[h.sp.g];omega);have pf:∀q,q<x.cells.length->0<pk q->w'.heap[pb q]?=w.heap[pb q]?:=λq hq hl=>far (pb q) (h.rw.pl q hq hl).2.1.1 (by rw[h.sp.p q hq hl];omega)
 have fr:0<x.regs.length->w'.heap[br]?=w.heap[br]?:=λhr=>far br (h.rw.nr hr).1.1 (by rw[h.sp.r hr];omega)
 refine⟨?_,cU h.nf fg o.size,h.lo,h.ha,λ_=>h.hc hn,⟨λj hj=>?_,λq hq=>?_,λq hq=>?_,λq hq j hj=>?_,λq hq hlq=>?_,λhr=>⟨cU (h.rw.nr hr).1 (fr hr) o.size,(h.rw.nr hr).2⟩,λ_=>⟨nfc,(h.rw.nc hn).2⟩,λ_=>h.rw.d hn,λq q' hq hq' hqq h1 h2=>?_,λq hq=>?_⟩,h.gr.block (λq hq=>far q (h.gr.lt q hq).2 (by rw[h.sp.y q hq];omega)),⟨?_,λhr=>?_,λ_=>?_,λq hq=>?_,λq hq hlq=>?_⟩,by rw[hl];exact h.kl,h.pr.of (λq hq h1=>far q hq (by rw[h1];omega)) (λq hq h1=>by(try dsimp only);rw[if_neg (by omega)];exact h1),λhk=>(h.cc hk).cells (old bc (h.cc hk).nf.1) nfc (λj v _ hv=>?_)⟩
 ·rw[hl];exact h.bx.block fg
 ·exact(h.rw.r j hj).of λm _=>World.cell?_of_block (a:=⟨br,_,none⟩) (fr (by have:j<x.regs.length:=hj;omega))
 ·rw[hl] at hq;have key:S7 w' bc (q*8) (x.c q):=(h.rw.s q hq).of λm hm=>co _ (by omega)
  by_cases e:q=i
  ·subst e;rw[hei];exact key
  ·rw[hne q e];exact key
 ·rw[hl] at hq;by_cases e:q=i
  ·subst e;rw[hei];simp only [if_true];exact c7
  ·rw[hne q e];simp only [if_neg e];rw[co _ (by omega)];exact h.rw.p7 q hq
 ·rw[hl] at hq;by_cases e:q=i
  ·subst e;rw[hei] at hj ⊢;simp only [if_true];exact hp j hj
  ·rw[hne q e] at hj ⊢;simp only [if_neg e];exact(h.rw.p q hq j hj).of λm _=>World.cell?_of_block (a:=⟨pb q,_,none⟩) (pf q hq (h.rw.pw hq (by omega)))
 ·rw[hl] at hq;by_cases e:q=i
  ·subst e;simp only [if_true] at hlq ⊢;obtain⟨a1,a2,a3,a4⟩:=hN hlq;refine⟨a1,a2,⟨λe=>?_,λe=>?_⟩,a4⟩
   ·have:=(h.rw.nr r0).1.1;omega
   ·have:=(h.rw.nc hn).1.1;omega
  ·simp only [if_neg e] at hlq ⊢;obtain⟨a1,a2,a3,a4⟩:=h.rw.pl q hq hlq;exact⟨a1,a0f a2 (pf q hq hlq) o.size,a3,a4⟩
 ·rw[hl] at hq hq';by_cases e:q=i
  ·subst e;have e':q'≠q:=λe=>hqq e.symm
   simp only [if_true,if_neg e'] at h1 h2 ⊢;have:=(h.rw.pl q' hq' h2).2.1.1;have:=(hN h1).2.2.1;omega
  ·by_cases e2:q'=i
   ·subst e2;simp only [if_true,if_neg e] at h1 h2 ⊢;have:=(h.rw.pl q hq h1).2.1.1;have:=(hN h2).2.2.1;omega
   ·simp only [if_neg e,if_neg e2] at h1 h2 ⊢;exact h.rw.dp q q' hq hq' hqq h1 h2
 ·rw[hl] at hq;by_cases e:q=i
  ·subst e;rw[hei];simp only [if_true];exact hkL
  ·rw[hne q e];simp only [if_neg e];exact h.rw.kp q hq
 ·rw[old g h.nf.1];exact h.sp.g
 ·rw[old br (h.rw.nr hr).1.1];exact h.sp.r hr
 ·rw[old bc (h.rw.nc hn).1.1];exact h.sp.c hn
 ·rw[old q (h.gr.lt q hq).2];exact h.sp.y q hq
 ·rw[hl] at hq;by_cases e:q=i
  ·subst e;simp only [if_true] at hlq ⊢;rw[if_pos (hN hlq).2.2.1]
  ·simp only [if_neg e] at hlq ⊢;rw[old (pb q) (h.rw.pl q hq hlq).2.1.1];exact h.sp.p q hq hlq
 ·by_cases e:j=i*8+7
  ·rw[e];exact⟨_,c7⟩
  ·exact⟨v,(co j e).trans hv⟩
theorem b4v[Inhabited uZ](h:GAt B w g x ar kr ac kc vg br bc pb pa pk role):
  Calls Tryz.prog 218 #[.pointer (some ⟨g,0,none⟩)] w λe w'=>e=.returned (.int .i64 (uV x))/\Ext w w':=by
 obtain⟨ag,kg,hvg⟩:=h.gr.form;subst hvg;have c4:=h.bx.2.2.2.2.1;have c5:=h.bx.2.2.2.2.2.1;have c6:=h.bx.2.2.2.2.2.2.1;have c8:=h.bx.2.2.2.2.2.2.2.2.1;have GA:=uU (λi hi=>h.gr.at i hi);clear h;cases q2:(x.phase == 2)
 ·cases q5:(x.phase == 5)
  ·have E:=uU (show uV x = -1 by unfold uV;rw[if_neg (λh=>by simp [h.1] at q2),if_neg (λh=>by simp [h.1] at q5)]);go_enter Tryz.func218,Tryz.ntmps218;go_wp2_with fail;go_quiet (fail);go_wp2_with fail;go_ret;exact⟨by rw[uH E];rfl,by repeat (first | exact Ext.refl _ | refine Ext.drewN ?_ _ | refine Ext.drew ?_)⟩
  ·by_cases hl:x.hand<x.cells.length
   ·have E:=uU (show uV x=x.hand by unfold uV;rw[if_neg (λh=>by simp [h.1] at q2),if_pos ⟨by simpa using q5,hl⟩]);go_enter Tryz.func218,Tryz.ntmps218;go_wp2_with fail;go_quiet (fail);go_wp2_with fail;go_ret;exact⟨by rw[uH E];rfl,by repeat (first | exact Ext.refl _ | refine Ext.drewN ?_ _ | refine Ext.drew ?_)⟩
   ·have E:=uU (show uV x = -1 by unfold uV;rw[if_neg (λh=>by simp [h.1] at q2),if_neg (λh=>hl h.2)]);go_enter Tryz.func218,Tryz.ntmps218;go_wp2_with fail;go_quiet (fail);go_wp2_with fail;go_ret;exact⟨by rw[uH E];rfl,by repeat (first | exact Ext.refl _ | refine Ext.drewN ?_ _ | refine Ext.drew ?_)⟩
 ·have q5:(x.phase == 5)=false:=by simp at q2 ⊢;omega
  by_cases hl:0<x.gray.length
  ·obtain⟨gb,go,rfl,gc,_⟩:=uH GA 0 hl;have E:=uU (show uV x=x.gray[0] by unfold uV;rw[if_pos ⟨by simpa using q2,hl⟩];simp [hl]);have g0:(x.gray.length:Int) > 0:=by omega
   have g1:(0:Int)<(x.gray.length:Int):=by omega
   rw[Nat.add_zero] at gc;go_enter Tryz.func218,Tryz.ntmps218;go_wp2_with fail;go_ret;exact⟨by rw[uH E];rfl,by repeat (first | exact Ext.refl _ | refine Ext.drewN ?_ _ | refine Ext.drew ?_)⟩
  ·have E:=uU (show uV x = -1 by unfold uV;rw[if_neg (λh=>hl h.2),if_neg (λh=>by simp [h.1] at q5)]);have g0:¬(x.gray.length:Int) > 0:=by omega
   go_enter Tryz.func218,Tryz.ntmps218;go_wp2_with fail;go_quiet (fail);go_wp2_with fail;go_ret;exact⟨by rw[uH E];rfl,by repeat (first | exact Ext.refl _ | refine Ext.drewN ?_ _ | refine Ext.drew ?_)⟩
theorem c1h[Inhabited uZ](h:GAt B w g x ar kr ac kc vg br bc pb pa pk role)(H:Nat->Bool)(bs:Nat)(hs:∀j,j<x.cells.length->w.cell? ⟨bs,j,none⟩=some (.bool (H j)))(y:Wd)(hy:uJ y x.cells.length)(hr:(zU x y).k=2->0<=(zU x y).a/\(zU x y).a<x.cells.length):
  Calls Tryz.prog 148 #[.pointer (some ⟨g,0,none⟩),.slice (some ⟨bs,0,none⟩) x.cells.length x.cells.length,y.v] w λe w'=>e=.returned (.bool (qW x H y))/\Ext w w':=by
 have XA:=(Ext.refl w).alloc (.cells #[iv y.k,iv y.n,iv y.a] 152);have QR:=uU (a4w y _ (h.ext XA) hy);have HS:=uU (show ∀W,Ext w W->∀j,j<x.cells.length->W.cell? ⟨bs,j,none⟩=some (.bool (H j)) from λW e j hj=>e.keep (hs j hj));have XA2:=uU XA;obtain⟨r,hrr⟩:∃r,r=zU x y:=⟨_,rfl⟩;have LB:=uU (show qW x H y=(r.k == 2 && !H r.a.toNat) by unfold qW;rw[hrr]);rw[<-hrr] at QR hr;clear h hs XA hrr;go_enter Tryz.func148,Tryz.ntmps148;go_wp2_with fail;refine QR.mono ?_;rintro e w1 ⟨rfl,q1⟩;have X1:=uU (XA2.trans q1);cases q:(r.k == 2)
 ·have E:=uU (show qW x H y=false by rw[uH LB,q];rfl);go_wp2_with fail;go_ret;exact⟨by rw[uH E];rfl,by repeat (first | exact X1 | refine Ext.drewN ?_ _ | refine Ext.drew ?_ | refine Ext.alloc ?_ _)⟩
 ·obtain⟨a0,a1⟩:=hr (by simpa using q);obtain⟨j,hj⟩:∃j:Nat,r.a=(j:Int):=⟨r.a.toNat,by omega⟩;have hjl:j<x.cells.length:=by omega
  have c0:=uH HS w1 X1 j hjl;have j0:(0:Int)<=(j:Int):=by omega
  have j1:(j:Int)<(x.cells.length:Int):=by omega
  have hb:bs<w1.heap.size:=uL c0;have E:=uU (show qW x H y = !H j by rw[uH LB,q,hj];rfl);cases hH:H j
  all_goals
   rw[hH] at c0;have E2:=uU E;rw[hH] at E2;go_wp2_with fail;go_ret;exact⟨by rw[uH E2];rfl,by repeat (first | exact X1 | refine Ext.drewN ?_ _ | refine Ext.drew ?_ | refine Ext.alloc ?_ _)⟩
theorem a4y(n:Int)(h0:-4000000<=n)(h1:n<=4000000):wrap64 n=n:=by unfold wrap64;omega
def b1z(x:Hp)(i k:Nat):Hp:={ x with cells:=x.cells.set i { x.c i with prs:=(x.c i).prs.eraseIdx k },used:=x.used-1,sub:=if (k:Int)<x.sub/\uV x=(i:Int) then x.sub-1 else x.sub }
theorem b3d(l:List Pr)(k j:Nat)(h:j<l.length):(l.take (j+1)).eraseIdx k=if j=k then l.take j else (l.take j).eraseIdx k++[l[j]]:=by
 rw[List.take_succ_eq_append_getElem h];have hl:(l.take j).length=j:=by simp;omega
 by_cases e:j=k
 ·rw[if_pos e,List.eraseIdx_append_of_length_le (by omega),hl,show k-j=0 by omega];simp
 ·rw[if_neg e];rcases Nat.lt_or_ge k j with q | q
  ·rw[List.eraseIdx_append_of_lt_length (by omega)]
  ·rw[List.eraseIdx_append_of_length_le (by omega),hl,List.eraseIdx_of_length_le (l:=l.take j) (by omega)]
   congr 1
   rw[List.eraseIdx_of_length_le];simp;omega
theorem cut_no(h:Hid (w.ownsRow B 154 6 v ((l.take j).eraseIdx k).length (((l.take j).eraseIdx k).flatMap fP)))(hj:j<l.length)(e:j=k):Hid (w.ownsRow B 154 6 v ((l.take (j+1)).eraseIdx k).length (((l.take (j+1)).eraseIdx k).flatMap fP)):=by
 rw[b3d l k j hj,if_pos e];have:(l.take j).eraseIdx k=l.take j:=List.eraseIdx_of_length_le (by simp;omega);rw[this] at h;exact h
theorem cut_all(h:Hid (w.ownsRow B 154 6 v ((l.take j).eraseIdx k).length (((l.take j).eraseIdx k).flatMap fP)))(hj:l.length<=j):Hid (w.ownsRow B 154 6 v (l.eraseIdx k).length ((l.eraseIdx k).flatMap fP)):=by
 rw[List.take_of_length_le hj] at h;exact h
theorem c4z{l:List Value}(h:Hid (w.ownsRow B 154 6 v n l))(e:Ext w w'):Hid (w'.ownsRow B 154 6 v n l):=uN h (λq hq=>e.block q (h.lt q hq).2)
def GK[Inhabited uZ](B:Nat)(w:World)(g:Nat)(x:Hp)(ar:Option Addr)(kr:Nat)(ac:Option Addr)(kc:Nat)(vg:Value)(br bc:Nat):Prop:=∃pb pa pk role,GAt B w g x ar kr ac kc vg br bc pb pa pk role
theorem GK.ext[Inhabited uZ](h:GK B w g x ar kr ac kc vg br bc)(e:Ext w w'):GK B w' g x ar kr ac kc vg br bc:=let ⟨pb,pa,pk,role,h⟩:=h;⟨pb,pa,pk,role,h.ext e⟩
theorem GK.ok[Inhabited uZ](h:GK B w g x ar kr ac kc vg br bc):GOk B w g x:=let ⟨pb,pa,pk,role,h⟩:=h;⟨_,_,_,_,_,_,_,pb,pa,pk,role,h⟩
theorem GK.set1[Inhabited uZ](h:GK B w g x ar kr ac kc vg br bc)(v:Int):GK B (w.setCell ⟨g,1,none⟩ (iv v)) g { x with used:=v } ar kr ac kc vg br bc:=let ⟨_,_,_,_,h⟩:=h;⟨_,_,_,_,h.boxed (x':={ x with used:=v }) (uX.setCell (S:=λq=>q=g) (uX.refl _ w) (p:=⟨g,1,none⟩) rfl _) (h.nf.set _ _) rfl rfl rfl (h.bx.set1 v)⟩
theorem GK.set7[Inhabited uZ](h:GK B w g x ar kr ac kc vg br bc)(v:Int):GK B (w.setCell ⟨g,7,none⟩ (iv v)) g { x with sub:=v } ar kr ac kc vg br bc:=let ⟨_,_,_,_,h⟩:=h;⟨_,_,_,_,h.boxed (x':={ x with sub:=v }) (uX.setCell (S:=λq=>q=g) (uX.refl _ w) (p:=⟨g,7,none⟩) rfl _) (h.nf.set _ _) rfl rfl rfl (h.bx.set7 v)⟩
def Fr2(g bc:Nat)(w w':World):Prop:=w.heap.size<=w'.heap.size/\∀q,q<w.heap.size->q≠g->q≠bc->w'.heap[q]?=w.heap[q]?
theorem Fr2.ext{w2:World}(h:Fr2 g bc w w1)(e:Ext w1 w2):Fr2 g bc w w2:=⟨Nat.le_trans h.1 e.size,λq h1 h2 h3=>(e.block q (Nat.lt_of_lt_of_le h1 h.1)).trans (h.2 q h1 h2 h3)⟩
theorem Fr2.of(e:Ext w w1):Fr2 g bc w w1:=⟨e.size,λq h1 _ _=>e.block q h1⟩
theorem Fr2.set(h:Fr2 g bc w w1)(p:Addr)(hp:p.block=g\/p.block=bc)(u:Value):Fr2 g bc w (w1.setCell p u):=⟨by have:=h.1;simpa [World.setCell] using this,λq h1 h2 h3=>(Below.heap_setCell _ _ _ _ (by rcases hp with e | e <;> rw[e] <;> assumption)).trans (h.2 q h1 h2 h3)⟩
theorem c7q{T:TypeId}{xs:List Value}(h:w.ownsRow B T c v n xs):∃va vq,v=.slice va n vq:=⟨_,_,(a0n h).1⟩
theorem b8g[Inhabited uZ]{wr:World}(h:GAt B w g x ar kr ac kc vg br bc pb pa pk role)(i:Nat)(hi:i<x.cells.length)(r0:0<x.regs.length)(L:List Pr)(va:Option Addr)(vq:Nat)(e:Ext w wr)(ow:wr.ownsRow w.heap.size 154 6 (.slice va L.length vq) L.length (L.flatMap fP)):
  GK B (wr.setCell ⟨bc,i*8+7,none⟩ (.slice va L.length vq)) g { x with cells:=x.cells.set i { x.c i with prs:=L } } ar kr ac kc vg br bc:=by
 have hn:0<x.cells.length:=by omega
 have hBg:B<=w.heap.size:=Nat.le_trans h.lo (Nat.le_of_lt h.nf.1);have hbc:=(h.rw.nc hn).1;obtain⟨ad,cap,e1,e2,hc⟩:=b5g (f:=fP) (λ_=>rfl) ow
 injection e1 with e1 _ e3
 subst e1 e3
 have hq:∀qb,va=some ⟨qb,0,none⟩->w.heap.size<=qb/\qb<wr.heap.size/\qb≠bc:=λqb hv=>by
  have:=ow.lt qb (by rw[hv];rfl);have:=hbc.1;omega
 have c7:(wr.setCell ⟨bc,i*8+7,none⟩ (.slice va L.length vq)).cell? ⟨bc,i*8+7,none⟩=some (.slice va L.length vq):=World.cell?_setCell_same _ _ _ (e.keep (h.rw.p7 i hi));refine⟨_,_,_,_,h.prow i hi r0 L (eJ (.slice va L.length vq)) va vq (uX.setCell (S:=λq=>q=bc) (uX.of_ext e) (p:=⟨bc,i*8+7,none⟩) rfl _) ((hbc.ext e).set _ _) c7 (λj hj=>?_) (λk hk=>?_) (b6k ow) (λhl=>?_)⟩
 ·rw[uC _ (.inr (λe=>hj e.symm))];exact(dH e).1 bc j hbc.1
 ·obtain⟨qb,rfl⟩:=e2 (by omega);obtain⟨q2,e4,_,_,hcc⟩:=hc k hk
  injection e4 with e4
  injection e4 with e4
  subst e4;have el:L.getD k Pr0=L[k]:=by simp [hk]
  rw[el]
  have key:∀m,m<6->(wr.setCell ⟨bc,i*8+7,none⟩ (.slice (some ⟨qb,0,none⟩) L.length vq)).cell? ⟨qb,k*6+m,none⟩=(fP L[k])[m]?:=λm hm=>by
   rw[uC _ (.inl (λe=>(hq qb rfl).2.2 e.symm))];have:=hcc m hm
   rwa [Nat.zero_add] at this
  exact⟨key 0 (by omega),key 1 (by omega),key 2 (by omega),key 3 (by omega),key 4 (by omega),key 5 (by omega)⟩
 ·obtain⟨o1,_,o3,_⟩:=b6m ow hl;have hb:=hq _ o1;exact⟨o1,a0f o3 (Below.heap_setCell _ _ _ _ hb.2.2) (by simp [World.setCell]),hb.1,Nat.le_trans hBg hb.1⟩
theorem b5n[Inhabited uZ]{B:Nat}{w:World}{g:Nat}{x:Hp}{ar:Option Addr}{kr:Nat}{ac:Option Addr}{kc:Nat}{vg:Value}{br bc:Nat}(h:GK B w g x ar kr ac kc vg br bc)(i k:Nat)(hi:i<x.cells.length)(hk:k<(x.c i).prs.length)(r0:0<x.regs.length)(h200:(x.c i).prs.length<=200)(hu:-3000000<=x.used/\x.used<=1000000)(hsb:-3000000<=x.sub/\x.sub<=1000000)(n8:x.cells.length<=8000)(a:World)(ha:a.heap.size<=B)(hx:Ext a w):
  Calls Tryz.prog 149 #[.pointer (some ⟨g,0,none⟩),.int .i64 i,.int .i64 k] w λe w'=>e=.returned (.tuple #[])/\GK B w' g (b1z x i k) ar kr ac kc vg br bc/\Fr2 g bc w w'/\Ext a w':=by
 obtain⟨pb,pa,pk,role,h⟩:=h;have hn:0<x.cells.length:=by omega
 have HH:=uU h;have c4:=h.bx.2.2.2.2.1;rw[h.hc hn] at c4;have p7:=h.rw.p7 i hi;have PL:=uU (h.rw.pl i hi (h.rw.pw hi (by omega)));obtain⟨i0,hi0,hz0,hz1,hz2⟩:=info_parts a4u;have j0:(0:Int)<=(i:Int):=by omega
 have j1:(i:Int)<(x.cells.length:Int):=by omega
 rw[(uH PL).1] at p7;have hgw:g<w.heap.size:=uL c4;have hbw:bc<w.heap.size:=uL p7;have XS:=uU hx;clear h;go_enter Tryz.func149,Tryz.ntmps149;go_wp2_with fail;obtain⟨l,hl⟩:∃l,l=(x.c i).prs:=⟨_,rfl⟩;rw[<-hl] at p7 hk h200
 have PP:=uU (show ∀j (hj:j<l.length),zW w (pb i) (j*6) l[j] from λj hj=>by
  have h1:=(uH HH).rw.p i hi j (by rw[<-hl];exact hj);have h2:(x.c i).p j=l[j]:=by simp [Cl.p,<-hl,hj]
  rw[h2] at h1;exact h1)
 have HL:=uU hl;have C4:=uU c4;have P7:=uU p7;rw[<-hl];clear hl;go_loopw [6,18] (λv s wr=>∃j:Nat,j<=l.length/\s=.int .i64 j/\Hid (wr.ownsRow w.heap.size 154 6 v ((l.take j).eraseIdx k).length (((l.take j).eraseIdx k).flatMap fP))/\Ext w wr) (λ_ s _=>l.length-(intOf s).toNat)
 case atStart=>exact⟨0,Nat.zero_le _,rfl,World.ownsRow_nil _ _ _ _,Ext.refl _⟩
 case round=>
  clear c4 p7;obtain⟨j,hj,rfl,hown,hbl⟩:=hrel;by_cases hlt:j<l.length
  ·obtain⟨e0,e1,e2,e3,e4,e5⟩:=(uH PP j hlt).ext hbl;have hb':pb i<wr.heap.size:=uL e0;have k0:(0:Int)<=(j:Int):=by omega
   have k1:(j:Int)<(l.length:Int):=by omega
   have NO:=uU (λq=>cut_no hown hlt q);have YES:=uU (b3d l k j hlt);have LE:=uU (show((l.take j).eraseIdx k).length<=j by have:=List.length_eraseIdx_le (l.take j) k;simp at this;omega);obtain⟨y,hy⟩:∃y,y=l[j]:=⟨_,rfl⟩;rw[<-hy] at e0 e1 e2 e3 e4 e5 YES;clear hy;obtain⟨L,hL⟩:∃L,L=(l.take j).eraseIdx k:=⟨_,rfl⟩;rw[<-hL] at hown YES LE;clear hL;have xa:=(Ext.refl wr).alloc (.cells #[iv y.key.k,iv y.key.n,iv y.key.a,iv y.val.k,iv y.val.n,iv y.val.a] 154);by_cases e:j=k
   ·have eb:((j:Int) != (k:Int))=false:=by simp [e]
    have N:=uU (uH (c4z (uH NO e) xa));clear NO YES e;go_wp2_with fail;go_roundw
    case rel=>exact⟨j+1,by omega,by go_num,uH N,hbl.trans xa⟩
    case measure=>simp [intOf];omega
   ·have eb:((j:Int) != (k:Int))=true:=by simp;omega
    have Y:=uU (show(l.take (j+1)).eraseIdx k=L++[y] by rw[uH YES,if_neg e]);clear NO YES e;go_wp2_with (at_builtin;refine wpList_append_lies _ rfl _ _ 60 rfl w.heap.size 154 i0 (.agg #[iv 0,iv 0,iv 0,iv 0,iv 0,iv 0]) 6 48 Tryz.underlying60 hi0 hz0 hz1 hz2 rfl (by decide) _ L.length (L.flatMap fP) rfl (((uH hown).alloc _).alloc _) _ 1 1 (fP y) rfl rfl ?c1 ?c2 (by decide) ?c3 ?c4 ?c5 _ rfl ?_)
    case c1=>
     intro q u hk
     match q,hk with
     | 0,hk=>simp [fP] at hk;subst hk;simp [Addr.add,go_sem]
     | 1,hk=>simp [fP] at hk;subst hk;simp [Addr.add,go_sem]
     | 2,hk=>simp [fP] at hk;subst hk;simp [Addr.add,go_sem]
     | 3,hk=>simp [fP] at hk;subst hk;simp [Addr.add,go_sem]
     | 4,hk=>simp [fP] at hk;subst hk;simp [Addr.add,go_sem]
     | 5,hk=>simp [fP] at hk;subst hk;simp [Addr.add,go_sem]
     | q+6,hk=>simp [fP] at hk
    case c2=>intro u hu;simp [fP] at hu;rcases hu with e | e | e | e | e | e <;> subst e <;> rfl
    case c3=>have:=uH LE;unfold maxLen;omega
    case c4=>have:=uH LE;omega
    case c5=>have:=hbl.size;simp;omega
    intro gq cap' w2 hown2 hgrow hat hglt
    have R:=uU (show w2.ownsRow w.heap.size 154 6 (.slice (some ⟨gq,0,none⟩) (L.length+1) cap') ((l.take (j+1)).eraseIdx k).length (((l.take (j+1)).eraseIdx k).flatMap fP) by
     rw[uH Y,List.flatMap_append]
     simpa using hown2)
    have X2:=uU (a3u ((hbl.alloc _).alloc _) (((uH hown).alloc _).alloc _) (Nat.le_refl _) hgrow);clear hown2 hgrow hat Y;go_wp2_with fail;go_roundw
    case rel=>exact⟨j+1,by omega,by go_num,uH R,uH X2⟩
    case measure=>simp [intOf];omega
  ·have OW:=uU (uH (cut_all hown (by omega)));obtain⟨va,vq,hv⟩:=c7q (uH OW);subst hv;have G1:=uU (b8g (uH HH) i hi r0 (l.eraseIdx k) va vq hbl (uH OW));have d4:=hbl.keep (uH C4);have d7:=hbl.keep (uH P7);have hgr:g<wr.heap.size:=uL d4;have hbr:bc<wr.heap.size:=uL d7;have fc:=(((uH HH).ext hbl).rw.nc hn).1.2 (i*8+7);have X1:=uU (show Ext a (wr.setCell ⟨bc,i*8+7,none⟩ (.slice va (l.eraseIdx k).length vq)) from((uH XS).trans hbl).setCell (p:=⟨bc,i*8+7,none⟩) (Nat.le_trans ha ((uH HH).rw.nc hn).2) _);have ngc:¬g=bc:=λe=>by have h1:=(uH HH).sp.g;have h2:=(uH HH).sp.c hn;rw[e] at h1;omega
   have ncg:¬bc=g:=λe=>ngc e.symm
   have b1:=hbl.keep (uH HH).bx.2.1;have b7:=hbl.keep (uH HH).bx.2.2.2.2.2.2.2.1;have f1:=((uH HH).ext hbl).nf.2 1;have f7:=((uH HH).ext hbl).nf.2 7;have wu:wrap64 (x.used-1)=x.used-1:=a4y _ (by omega) (by omega);have G2:=uU ((uH G1).set1 (x.used-1));have LO:=uU (uH HH).lo;have FR:=uU (((Fr2.of (g:=g) (bc:=bc) hbl).set ⟨bc,i*8+7,none⟩ (.inr rfl) (.slice va (l.eraseIdx k).length vq)).set ⟨g,1,none⟩ (.inl rfl) (iv (x.used-1)));have X2:=uU ((uH X1).setCell (p:=⟨g,1,none⟩) (Nat.le_trans ha (uH HH).lo) (iv (x.used-1)));clear hown OW;obtain⟨z,hz⟩:∃z:Hp,z={ ({ x with cells:=x.cells.set i { x.c i with prs:=l.eraseIdx k } }:Hp) with used:=x.used-1 }:=⟨_,rfl⟩;have HZ:=uU hz;have SZ:=uU (show uV z=uV x by rw[hz];unfold uV;simp);have ZS:=uU (show z.sub=x.sub by rw[hz]);have G2:=uU (show GK B ((wr.setCell ⟨bc,i*8+7,none⟩ (.slice va (l.eraseIdx k).length vq)).setCell ⟨g,1,none⟩ (iv (x.used-1))) g z ar kr ac kc vg br bc by rw[hz];exact uH G2);clear hz;by_cases hks:(k:Int)<x.sub
   ·obtain⟨pb2,pa2,pk2,role2,g2⟩:=uH G2;have QS:=uU (b4v g2);rw[uH SZ] at QS;clear g2;go_wp2_with fail;refine(uH QS).mono ?_;rintro e w3 ⟨rfl,q3⟩;have G3:=uU ((uH G2).ext q3);have X3:=uU ((uH X2).trans q3);have d1:w3.cell? ⟨g,7,none⟩=some (iv x.sub):=by have:=(uH G3).ok.box;exact this.2.1.trans (by rw[uH ZS])
    have d2:w3.frozen? ⟨g,7,none⟩=false:=by obtain⟨_,_,_,_,g3⟩:=uH G3;exact g3.nf.2 7
    have hg3:g<w3.heap.size:=uL d1;have ws:wrap64 (x.sub-1)=x.sub-1:=a4y _ (by omega) (by omega);cases q:(uV x == (i:Int))
    ·have E:=uU (show b1z x i k=z by rw[uH HZ];unfold b1z;rw[if_neg (λh=>by simp [h.2] at q),uH HL]);go_wp2_with fail
     go_end0
     exact⟨rfl,by rw[uH E];exact uH G3,(uH FR).ext q3,uH X3⟩
    ·have E:=uU (show b1z x i k={ z with sub:=x.sub-1 } by rw[uH HZ];unfold b1z;rw[if_pos ⟨hks,by simpa using q⟩,uH HL]);have G4:=uU ((uH G3).set7 (x.sub-1));have X4:=uU ((uH X3).setCell (p:=⟨g,7,none⟩) (Nat.le_trans ha (uH LO)) (iv (x.sub-1)));go_wp2_with fail
     go_end0
     exact⟨rfl,by rw[uH E];exact uH G4,((uH FR).ext q3).set ⟨g,7,none⟩ (.inl rfl) _,uH X4⟩
   ·have E:=uU (show b1z x i k=z by rw[uH HZ];unfold b1z;rw[if_neg (λh=>hks h.1),uH HL]);go_wp2_with fail
    go_end0
    exact⟨rfl,by rw[uH E];exact uH G2,uH FR,uH X2⟩
def inH(x:Hp)(H:Nat->Bool)(b:Hp)(i k:Nat):Hp:={ b with cells:=b.cells.set i { x.c i with prs:=(x.c i).prs.take k++yX x H (x.c i) ((x.c i).prs.drop k) },used:=b.used-eZ x H (x.c i) ((x.c i).prs.drop k),sub:=if uV x=(i:Int) then b.sub-eZ x H (x.c i) (((x.c i).prs.take b.sub.toNat).drop k) else b.sub }
theorem b5o(x:Hp)(H:Nat->Bool)(c:Cl)(p:Pr)(l:List Pr):yX x H c (p::l)=if goB x H c p=true then yX x H c l else p::yX x H c l:=by
 unfold yX;cases h:goB x H c p <;> simp [h]
theorem a2t(x:Hp)(H:Nat->Bool)(c:Cl)(p:Pr)(l:List Pr):eZ x H c (p::l)=if goB x H c p=true then eZ x H c l+1 else eZ x H c l:=by
 unfold eZ;cases h:goB x H c p <;> simp [h]
theorem a5t(x:Hp)(H:Nat->Bool)(c:Cl)(l:List Pr):eZ x H c l<=l.length:=by
 have:=a1z x H c l;omega
theorem a4z(l:List Pr)(k:Nat)(h:k<l.length):l.drop k=l[k]::l.drop (k+1):=List.drop_eq_getElem_cons h
theorem b8h(l:List Pr)(s k:Nat)(h:k<s)(hs:s<=l.length):(l.take s).drop k=(l[k]'(by omega))::(l.take s).drop (k+1):=by
 rw[List.drop_eq_getElem_cons (by simp;omega)];simp
theorem inH_top(x:Hp)(H:Nat->Bool)(b:Hp)(i:Nat)(hi:i<b.cells.length)(hb:b.c i=x.c i):inH x H b i (x.c i).prs.length=b:=by
 have e1:(x.c i).prs.drop (x.c i).prs.length=[]:=List.drop_length;have e2:((x.c i).prs.take b.sub.toNat).drop (x.c i).prs.length=[]:=List.drop_eq_nil_of_le (by simp;omega);unfold inH;rw[e1,e2,List.take_length]
 have e3:b.cells.set i { x.c i with prs:=(x.c i).prs++yX x H (x.c i) [] }=b.cells:=by
  have:({ x.c i with prs:=(x.c i).prs++yX x H (x.c i) [] }:Cl)=b.cells[i]:=by rw[Hp.c_eq b i hi,hb];simp [yX]
  rw[this];simp
 rw[e3];simp [eZ]
theorem c7r(x:Hp)(H:Nat->Bool)(b:Hp)(i k:Nat)(hk:k<(x.c i).prs.length)(q:goB x H (x.c i) (x.c i).prs[k]=false)(hs:uV x=(i:Int)->b.sub<=(x.c i).prs.length):inH x H b i k=inH x H b i (k+1):=by
 unfold inH;rw[a4z _ k hk,b5o,a2t,if_neg (by simp [q]),if_neg (by simp [q]),List.take_succ_eq_append_getElem hk,List.append_assoc,List.singleton_append]
 congr 1
 by_cases e:uV x=(i:Int)
 ·rw[if_pos e,if_pos e];have hs:=hs e;by_cases hlt:k<b.sub.toNat
  ·rw[b8h _ _ k hlt (by omega),a2t,if_neg (by simp [q])]
  ·rw[List.drop_eq_nil_of_le (by simp;omega),List.drop_eq_nil_of_le (by simp;omega)]
 ·rw[if_neg e,if_neg e]
theorem c7s(x:Hp)(H:Nat->Bool)(b:Hp)(i k:Nat)(hsc:uV b=uV x):uV (inH x H b i k)=uV x:=by
 rw[<-hsc];unfold uV inH;simp
theorem inH_len(x:Hp)(H:Nat->Bool)(b:Hp)(i k:Nat):(inH x H b i k).cells.length=b.cells.length:=by simp [inH]
theorem inH_c(x:Hp)(H:Nat->Bool)(b:Hp)(i k:Nat)(hi:i<b.cells.length):(inH x H b i k).c i={ x.c i with prs:=(x.c i).prs.take k++yX x H (x.c i) ((x.c i).prs.drop k) }:=by
 have:=Hp.c_set b i { x.c i with prs:=(x.c i).prs.take k++yX x H (x.c i) ((x.c i).prs.drop k) } hi i;rw[if_pos rfl] at this;exact this
theorem inH_cut(x:Hp)(H:Nat->Bool)(b:Hp)(i k:Nat)(hi:i<b.cells.length)(hk:k<(x.c i).prs.length)(q:goB x H (x.c i) (x.c i).prs[k]=true)(hs:uV x=(i:Int)->0<=b.sub/\b.sub<=(x.c i).prs.length)(hsc:uV b=uV x):b1z (inH x H b i (k+1)) i k=inH x H b i k:=by
 have ec:=inH_c x H b i (k+1) hi;have hl:((x.c i).prs.take k).length=k:=by simp;omega
 have e1:(((x.c i).prs.take (k+1)++yX x H (x.c i) ((x.c i).prs.drop (k+1))).eraseIdx k)=(x.c i).prs.take k++yX x H (x.c i) ((x.c i).prs.drop k):=by
  rw[a4z _ k hk,b5o,if_pos q,List.take_succ_eq_append_getElem hk,List.append_assoc,List.eraseIdx_append_of_length_le (by omega),hl,Nat.sub_self];simp
 have e2:eZ x H (x.c i) ((x.c i).prs.drop k)=eZ x H (x.c i) ((x.c i).prs.drop (k+1))+1:=by rw[a4z _ k hk,a2t,if_pos q]
 have e3:(if (k:Int)<(inH x H b i (k+1)).sub/\uV (inH x H b i (k+1))=(i:Int) then (inH x H b i (k+1)).sub-1 else (inH x H b i (k+1)).sub)=(inH x H b i k).sub:=by
  rw[c7s x H b i (k+1) hsc];by_cases e:uV x=(i:Int)
  ·have hs:=hs e;simp only [inH,if_pos e];by_cases hlt:k<b.sub.toNat
   ·have h1:=b8h (x.c i).prs b.sub.toNat k hlt (by omega);have h2:=a5t x H (x.c i) (((x.c i).prs.take b.sub.toNat).drop (k+1));have h3:(((x.c i).prs.take b.sub.toNat).drop (k+1)).length=b.sub.toNat-(k+1):=by simp;omega
    rw[if_pos ⟨by omega,e⟩,h1,a2t,if_pos q];omega
   ·rw[List.drop_eq_nil_of_le (by simp;omega),List.drop_eq_nil_of_le (by simp;omega)];rw[if_neg (λh=>by have:=h.1;simp [eZ] at this;omega)]
  ·rw[if_neg (λh=>e h.2)];simp only [inH,if_neg e]
 unfold b1z;rw[e3,ec];simp only [e1];unfold inH;simp only [e2,List.set_set]
 congr 1
 omega
theorem a2z(x:Hp)(y:Wd)(b:Nat)(w:World)(h:HAt w b x ar kr ac kc ag kg)(hy:a0p x y):
  Calls Tryz.prog 138 #[.pointer (some ⟨b,0,none⟩),y.v] w λe w'=>∃t:Wd,Hid (e=.returned t.v)/\Hid ((y.k≠2/\t=y)\/(y.k=2/\t=⟨2,0,(tgt x y:Int)⟩))/\Ext w w':=by
 cases k2:(y.k == 2)
 ·exact(a8f y b w k2).mono λ_ _ ⟨he,hx⟩=>⟨y,he,.inl ⟨by simpa using k2,rfl⟩,hx⟩
 ·have hk:y.k=2:=by simpa using k2
  obtain⟨n0,a0,a1,ht,hg⟩:=hy hk;obtain⟨i,hi⟩:∃i:Nat,y.a=(i:Int):=⟨y.a.toNat,by omega⟩;have et:tgt x y=tD x i:=by unfold tgt;rw[hi];simp
  have ev:(.agg #[iv 2,iv 0,iv i]:Value)=y.v:=by rw[<-hi,<-n0,<-hk]
  have ei:y.a.toNat=i:=by omega
  rw[ei] at ht;have:=a9e x b i w h (by omega) ht;rw[ev] at this;exact this.mono λ_ _ ⟨he,hx⟩=>⟨⟨2,0,(tgt x y:Int)⟩,by rw[he,et];rfl,.inr ⟨hk,rfl⟩,hx⟩
def b2a(w:World)(B bs:Nat)(v:Value)(wk:Int):Prop:=w.cell? ⟨B,2,none⟩=some (iv wk)/\B≠bs/\v.ownBlock≠some B
theorem b2a.ext(h:b2a w B bs v wk)(e:Ext w w'):b2a w' B bs v wk:=⟨e.keep h.1,h.2⟩
theorem Mfr.apart(m:Mfr bs v v' w w')(hB:B<w.heap.size)(hv:v.ownBlock≠some B):v'.ownBlock≠some B:=λe=>by
 rcases m.own with q | ⟨g,q,hg⟩
 ·rw[q] at e;exact hv e
 ·rw[q] at e;cases e;omega
theorem b2a.mfr(h:b2a w B bs v wk)(m:Mfr bs v v' w w'):b2a w' B bs v' wk:=
 have hB:=uL h.1
 ⟨(World.cell?_of_block (a:=⟨B,2,none⟩) (m.block B hB h.2.1 h.2.2)).trans h.1,h.2.1,m.apart hB h.2.2⟩
structure PBx(w:World)(B bs:Nat)(v:Value)(p:Pr):Prop where
 c:w.cell? ⟨B,0,none⟩=some (.int .i64 p.key.k)/\w.cell? ⟨B,1,none⟩=some (.int .i64 p.key.n)/\w.cell? ⟨B,2,none⟩=some (.int .i64 p.key.a)/\w.cell? ⟨B,3,none⟩=some (.int .i64 p.val.k)/\w.cell? ⟨B,4,none⟩=some (.int .i64 p.val.n)/\w.cell? ⟨B,5,none⟩=some (.int .i64 p.val.a)
 n:B≠bs
 o:v.ownBlock≠some B
theorem PBx.ext(h:PBx w B bs v p)(e:Ext w w'):PBx w' B bs v p:=⟨⟨e.keep h.c.1,e.keep h.c.2.1,e.keep h.c.2.2.1,e.keep h.c.2.2.2.1,e.keep h.c.2.2.2.2.1,e.keep h.c.2.2.2.2.2⟩,h.n,h.o⟩
theorem PBx.mfr(h:PBx w B bs v p)(m:Mfr bs v v' w w'):PBx w' B bs v' p:=by
 have hB:B<w.heap.size:=uL h.c.1;have k:=λo=>World.cell?_of_block (w:=w) (w':=w') (a:=⟨B,o,none⟩) (m.block B hB h.n h.o)
 exact⟨⟨(k 0).trans h.c.1,(k 1).trans h.c.2.1,(k 2).trans h.c.2.2.1,(k 3).trans h.c.2.2.2.1,(k 4).trans h.c.2.2.2.2.1,(k 5).trans h.c.2.2.2.2.2⟩,h.n,m.apart hB h.o⟩
theorem PBx.new{base:Nat}{t:TypeId}(h:Sn w base bs n v T):PBx (w.alloc (.cells #[.int .i64 p.key.k,.int .i64 p.key.n,.int .i64 p.key.a,.int .i64 p.val.k,.int .i64 p.val.n,.int .i64 p.val.a] t)) w.heap.size bs v p:=
 ⟨by simp [go_sem],by have:=h.hb.2;omega,λe=>by have:=(h.own.lt _ e).2;omega⟩
theorem qC.more{p:Nat}(h:qC x L0 j p T)(hk:SK (x.c j)->((x.c j).p p).key.k=2->(tgt x ((x.c j).p p).key:Int)∈T)(hv:SV (x.c j)->(((x.c j).p p).key.k=2->(tgt x ((x.c j).p p).key:Int)∈L0)->((x.c j).p p).val.k=2->(tgt x ((x.c j).p p).val:Int)∈T):qC x L0 j (p+1) T:=λq hq=>by
 by_cases e:q=p
 ·subst e;exact⟨hk,hv⟩
 ·exact h q (by omega)
abbrev AtC(x:Hp)(L:List Int)(c j p:Nat)(T:List Int):Prop:=tV x L c T/\it T c=(j:Int)/\c<T.length/\qC x L j p T
theorem AtC.mark{p:Nat}{T5:List Int}(h:AtC x L c j p T)(a:Add x ((x.c j).p p).key T T5)(hy:((x.c j).p p).key.k=2->dK x (tgt x ((x.c j).p p).key)):tV x L c T5/\it T5 c=(j:Int)/\c<T5.length/\qC x L j p T5/\(SK (x.c j)->((x.c j).p p).key.k=2->(tgt x ((x.c j).p p).key:Int)∈T5):=by
 obtain⟨i1,i2,i3,i4⟩:=h;obtain⟨R,r⟩:=a.pre;have l5:T.length<=T5.length:=by rw[r];simp
 refine⟨i1.add a (by omega) hy,?_,by omega,i4.mono (λz hz=>a.sub hz),λ_ e=>a.has e⟩;rw[r,b0n i3];exact i2
theorem tV.val{p:Nat}{T8:List Int}(h:tV x L c T/\it T c=(j:Int)/\c<T.length/\qC x L j p T/\(SK (x.c j)->((x.c j).p p).key.k=2->(tgt x ((x.c j).p p).key:Int)∈T))(a:Add x ((x.c j).p p).val T T8)(hy:((x.c j).p p).val.k=2->dK x (tgt x ((x.c j).p p).val)):tV x L c T8/\it T8 c=(j:Int)/\c<T8.length/\qC x L j (p+1) T8:=by
 obtain⟨i1,i2,i3,i4,i5⟩:=h;obtain⟨R,r⟩:=a.pre;have l5:T.length<=T8.length:=by rw[r];simp
 refine⟨i1.add a (by omega) hy,?_,by omega,(i4.mono (λz hz=>a.sub hz)).more (λs e=>a.sub (i5 s e)) (λ_ _ e=>a.has e)⟩;rw[r,b0n i3];exact i2
theorem b1o(x:Hp)(b:Nat)(w:World)(h:HAt w b x ar kr ac kc ag kg)(r2:R2 x)(r4:R4 x)(hn8:x.cells.length<=8000):
  Calls Tryz.prog 77 #[.pointer (some ⟨b,0,none⟩)] w λe w'=>∃v L,Hid (e=.returned (.slice (some ⟨w.heap.size,0,none⟩) x.cells.length x.cells.length))/\Sn w' w.heap.size w.heap.size x.cells.length v L/\Hid (∀i:Nat,(i:Int)∈L↔dK x i)/\Ext w w':=by
 have c4:=h.c4;have c3:=h.c3;have lr:=h.lr;have hb:b<w.heap.size:=uL c4;have HH:=uU h;have Q2:=uU r2;have Q4:=uU r4;clear h r2 r4;obtain⟨z,hmk,hz⟩:=b6o x.cells.length (by omega) w;have S0:=uU (Sn.start w x.cells.length 4);rw[<-hz] at S0;clear hz;go_enter Tryz.func77,Tryz.ntmps77;go_wp2_with fail;go_loopw [4,26] (λv i wr=>∃(k:Nat) (L:List Int),k<=x.regs.length/\i=.int .i64 k/\Sn wr w.heap.size w.heap.size x.cells.length v L/\Hid (a9o x L/\a4e x k L)/\Ext w wr) (λ_ i _=>x.regs.length-(intOf i).toNat)
 case atStart=>exact⟨0,[],Nat.zero_le _,rfl,S0,⟨(λz hz=>by cases hz),λj _ hj=>by omega⟩,(Ext.refl w).alloc _⟩
 case round=>
  clear S0 hmk c4 c3;obtain⟨k,L,hk,rfl,hs,hinv,hbl⟩:=hrel;have HS:=uU hs;clear hs;by_cases hlt:k<x.regs.length
  ·have hh:=HH.ext hbl;obtain⟨b',o,e1,p0,p1,p2⟩:=hh.R k hlt;have d3:=hh.c3;rw[e1] at d3;have hk0:(0:Int)<=(k:Int):=by omega
   have hk1:(k:Int)<(x.regs.length:Int):=by omega
   have xa:=(Ext.refl wr).alloc (.cells #[iv x.regs[k].k,iv x.regs[k].n,iv x.regs[k].a] 152);subst e1;clear hh;go_wp2_with fail;refine(a0k x x.regs[k] b w.heap.size w.heap.size _ L _ (HH.ext (hbl.trans xa)) (a9h Q2 Q4 k hlt) (HS.ext xa) (hbl.trans xa).size hn8).mono ?_;rintro e w2 ⟨v',L',rfl,hs',ha,hm⟩
   have R:=uU (show Sn w2 w.heap.size w.heap.size x.cells.length v' L'/\(a9o x L'/\a4e x (k+1) L')/\Ext w w2 from
    ⟨hs',⟨hinv.1.add ha (λe=>dK.reg k hlt e),λj hj hjk e=>by
     by_cases q:j=k
     ·subst q;exact ha.has e
     ·exact ha.sub (hinv.2 j hj (by omega) e)⟩,(HS.ext xa).mext hm (hbl.trans xa)⟩)
   clear hs' ha hm xa;go_wp2_with fail;go_roundw
   case rel=>exact⟨k+1,L',by omega,by go_num,R.1,R.2.1,R.2.2⟩
   case measure=>simp [intOf];omega
  ·have hk2:k=x.regs.length:=by omega
   subst hk2;have c4:=(HH.ext hbl).c4;have B0:=uU hbl;clear hlt hk;go_wp2_with fail;clear hbl;go_loopw [4,41] (λv i wr=>∃(k:Nat) (L:List Int),k<=x.cells.length/\i=.int .i64 k/\Sn wr w.heap.size w.heap.size x.cells.length v L/\Hid (a9o x L/\a4e x x.regs.length L/\b8d x k L)/\Ext w wr) (λ_ i _=>x.cells.length-(intOf i).toNat)
   case atStart=>exact⟨0,L,Nat.zero_le _,rfl,HS,⟨hinv.1,hinv.2,λi hi=>by omega⟩,B0⟩
   case round=>
    clear HS hinv B0 c4 L;obtain⟨k,L,hk,rfl,hs,hinv,hbl⟩:=hrel;have HS:=uU hs;clear hs;by_cases hlt:k<x.cells.length
    ·have hh:=HH.ext hbl;obtain⟨b',o,ap,kp,e1,p0,p1,p2,p3,p4,p5,p6,p7,lp,P⟩:=hh.cell k hlt;have hb':b'<wr.heap.size:=uL p0;have d4:=hh.c4;rw[e1] at d4;have hk0:(0:Int)<=(k:Int):=by omega
     have hk1:(k:Int)<(x.cells.length:Int):=by omega
     have xa:=(Ext.refl wr).alloc (.cells #[iv (x.c k).st,iv (x.c k).kind,iv (x.c k).weak,iv (x.c k).last,iv (x.c k).born,iv (x.c k).color,iv (x.c k).to,.slice ap (x.c k).prs.length kp] 62);subst e1;clear P hh;cases tl:((x.c k).last == 2)
     ·have R:=uU (show b8d x (k+1) L from λi hi hn e=>by
       by_cases q:i=k
       ·subst q;simp at tl;exact(tl e).elim
       ·exact hinv.2.2 i (by omega) hn e)
      have A:=uU (And.intro (HS.ext xa) (hbl.trans xa));clear xa;go_wp2_with fail;go_roundw
      case rel=>exact⟨k+1,L,by omega,by go_num,A.1,⟨hinv.1,hinv.2.1,R⟩,A.2⟩
      case measure=>simp [intOf];omega
     ·have hl2:(x.c k).last=2:=by simpa using tl
      have HL:=uU hl2;have hst:=a0x Q2 k hlt (.inr hl2);have et:tgt x ⟨2,0,(k:Int)⟩=k:=by unfold tgt tD;simp [hst]
      have MY:=uU (show a0p x ⟨2,0,(k:Int)⟩ from λ_=>⟨rfl,by simp,by simpa using hlt,(λh=>by simp [hst] at h),by rw[et];exact b0m Q4 k hlt hst (.inr hl2)⟩);have ET:=uU et;clear hl2 hst et;go_wp2_with fail;refine(a0k x ⟨2,0,(k:Int)⟩ b w.heap.size w.heap.size _ L _ (HH.ext (hbl.trans xa)) MY (HS.ext xa) (hbl.trans xa).size hn8).mono ?_;rintro e w2 ⟨v',L',rfl,hs',ha,hm⟩
      have R:=uU (show Sn w2 w.heap.size w.heap.size x.cells.length v' L'/\(a9o x L'/\a4e x x.regs.length L'/\b8d x (k+1) L')/\Ext w w2 from
       ⟨hs',⟨hinv.1.add ha (λ_=>by rw[uH ET];exact dK.due k hlt HL),λj hj hjk e=>ha.sub (hinv.2.1 j hj hjk e),λi hi hn e=>by
        by_cases q:i=k
        ·subst q;have:=ha.has rfl;rw[uH ET] at this;exact this
        ·exact ha.sub (hinv.2.2 i (by omega) hn e)⟩,(HS.ext xa).mext hm (hbl.trans xa)⟩)
      clear hs' ha hm xa;go_wp2_with fail;go_roundw
      case rel=>exact⟨k+1,L',by omega,by go_num,R.1,R.2.1,R.2.2⟩
      case measure=>simp [intOf];omega
    ·have hk2:k=x.cells.length:=by omega
     subst hk2;have B0:=uU hbl;have R0:=uU (show b8e x (-1) L from⟨hinv.1,hinv.2.1,hinv.2.2,⟨by omega,by omega⟩,λe=>by omega⟩);clear hlt hk hinv hbl;go_wp2_with fail;go_loopw [4,9] (λv n wr=>∃(m:Int) (L:List Int),n=.int .i64 m/\Sn wr w.heap.size w.heap.size x.cells.length v L/\Hid (b8e x m L)/\Ext w wr) (λ_ n _=>((x.cells.length:Int)-intOf n).toNat)
     case atStart=>exact⟨-1,L,rfl,HS,R0,B0⟩
     case round=>
      clear HS R0 B0 L;obtain⟨m,L,rfl,hs,hre,hbl⟩:=hrel;have HS:=uU hs;have hLn:=hs.len;have hmb:=hre.b;obtain⟨ad,cap,rfl,hgl⟩:=hs.form;clear hs hgl;by_cases hml:m=(L.length:Int)
      ·have D:=uU (show ∀i:Nat,(i:Int)∈L↔dK x i by have:=uH hre;rw[hml] at this;exact this.done);have hnn:(m != (L.length:Int))=false:=by simp [hml]
       clear hre;go_wp2_with fail;go_ret;exact⟨_,L,rfl,HS,D,hbl⟩
      ·have hnn:(m != (L.length:Int))=true:=by simp [hml]
       have P0:=uU hre.begin;have B0:=uU hbl;have hm2:m<(L.length:Int):=by omega
       clear hre hbl hml;go_wp2_with fail;go_loopw [4,10] (λv i wr=>∃(c:Nat) (T:List Int),c<=T.length/\i=.int .i64 c/\Sn wr w.heap.size w.heap.size x.cells.length v T/\Hid (tV x L c T)/\Ext w wr) (λ_ i _=>x.cells.length-(intOf i).toNat)
       case atStart=>exact⟨0,L,Nat.zero_le _,rfl,HS,P0,B0⟩
       case round=>
        clear HS P0 B0;obtain⟨c,T,hc,rfl,hs,hpa,hbl⟩:=hrel;have HS:=uU hs;obtain⟨ad,cap,rfl,hgl⟩:=hs.form;have hTn:=hs.len;by_cases hlt:c<T.length
        ·obtain⟨g,rfl⟩:=hgl (by omega);obtain⟨a1,a2,a3⟩:=(Rw1.mk hs.own).cell c hlt;obtain⟨j,ej,hrj⟩:=hpa.o _ (a3j T c hlt);rw[ej] at a1;have hgj:=hrj.good Q2 Q4;have hh:=HH.ext hbl;obtain⟨b',o,ap,kp,e1,C⟩:=HH.cell j hgj.1;have d4:=hh.c4;rw[e1] at d4;have q0:=hbl.keep C.p0;have q1:=hbl.keep C.p1;have q2:=hbl.keep C.p2;have q3:=hbl.keep C.p3;have q4:=hbl.keep C.p4;have q5:=hbl.keep C.p5;have q6:=hbl.keep C.p6;have q7:=hbl.keep C.p7;have hbq:b'<wr.heap.size:=uL q0;have hbd:b<wr.heap.size:=uL d4;have hbg:g<wr.heap.size:=uL a1;have lp:=C.lp;have HP:=uU C.P;have EJ:=uU ej;have RJ:=uU hrj;have GJ:=uU hgj;have hjn:=hgj.1;have c0:(0:Int)<=(c:Int):=by omega
         have c1:(c:Int)<(T.length:Int):=by omega
         have j0:(0:Int)<=(j:Int):=by omega
         have j1:(j:Int)<(x.cells.length:Int):=by omega
         clear hs C hh e1 ej hrj hgj a3 a2;obtain⟨WR,hWR⟩:∃W,W=wr:=⟨_,rfl⟩;subst hWR
         have hwk:(x.c j).weak=0\/(x.c j).weak=1\/(x.c j).weak=2\/(x.c j).weak=3:=by
          have h2:=GJ.2.1;rcases Q2.1 j hjn with z | z | z
          ·omega
          ·omega
          ·have:=z.2.2.1;omega
         have OB:=uU (show ∀q,WR.heap.size<=q->(Value.slice (some ⟨g,0,none⟩) T.length cap).ownBlock≠some q from λq hq e=>by have:=(HS.own.lt _ e).2;omega);have PA:=uU hpa;clear hpa;go_wp2_with fail;go_cut [11] (λs11 wx=>∃B:Nat,s11=.pointer (some ⟨B,0,none⟩)/\Hid (wx.cell? ⟨B,2,none⟩=some (iv (x.c j).weak)/\wx.cell? ⟨B,7,none⟩=some (.slice ap (x.c j).prs.length kp)/\WR.heap.size<=B)/\Ext WR wx)
         case first=>
          go_region_with (fail)
          all_goals
           go_wp2_with fail;go_meet;exact⟨_,rfl,⟨by simp [go_sem],by simp [go_sem],Nat.le_refl _⟩,((Ext.refl WR).alloc _).drew⟩
         case rest=>
          obtain⟨B,rfl,hbx,xB⟩:=hcut;have b7:=hbx.2.1;have X0:=uU (hbl.trans xB);have S0:=uU (HS.ext xB);have B0:=uU (show b2a wc B w.heap.size (.slice (some ⟨g,0,none⟩) T.length cap) (x.c j).weak from⟨hbx.1,by have:=hbl.size;have:=hbx.2.2;have:=HS.hb.2;omega,uH OB B hbx.2.2⟩);clear hbx xB hbl HS OB q0 q1 q2 q3 q4 q5 q6 q7 d4 a1 hbq hbd hbg;go_wp2_with fail;go_loopw [4,81] (λv i wz=>∃(p:Nat) (T':List Int),p<=(x.c j).prs.length/\i=.int .i64 p/\Sn wz w.heap.size w.heap.size x.cells.length v T'/\Hid (tV x L c T'/\it T' c=(j:Int)/\c<T'.length/\qC x L j p T')/\Hid (b2a wz B w.heap.size v (x.c j).weak)/\Ext w wz) (λ_ i _=>(x.c j).prs.length-(intOf i).toNat)
          case atStart=>exact⟨0,T,Nat.zero_le _,rfl,S0,⟨PA,EJ,hlt,λp hp=>by omega⟩,B0,X0⟩
          case round=>
           clear S0 PA B0 X0 b7;obtain⟨p,T,hp,rfl,hs,hinv,hbo,hbl⟩:=hrel;have HS:=uU hs;have hTn:=hs.len;by_cases hpl:p<(x.c j).prs.length
           ·obtain⟨b2,o2,rfl,q0,q1,q2,q3,q4,q5⟩:=uH HP p hpl;have e0:=hbl.keep q0;have e1:=hbl.keep q1;have e2:=hbl.keep q2;have e3:=hbl.keep q3;have e4:=hbl.keep q4;have e5:=hbl.keep q5;have hb2:b2<wr.heap.size:=uL e0;have hBl:B<wr.heap.size:=uL hbo.1;clear q0 q1 q2 q3 q4 q5 hs;have hp0:(0:Int)<=(p:Int):=by omega
            have hp1:(p:Int)<((x.c j).prs.length:Int):=by omega
            have xa:=(Ext.refl wr).alloc (.cells #[.int .i64 ((x.c j).p p).key.k,.int .i64 ((x.c j).p p).key.n,.int .i64 ((x.c j).p p).key.a,.int .i64 ((x.c j).p p).val.k,.int .i64 ((x.c j).p p).val.n,.int .i64 ((x.c j).p p).val.a] 154);have hMM:=uU (a4d Q2 Q4 j p GJ hpl);have bx:=hbo.1;have HSA:=uU (HS.ext xa);have BXA:=uU (hbo.ext xa);have XA:=hbl.trans xa;have PB:=uU (show PBx (wr.alloc (.cells #[.int .i64 ((x.c j).p p).key.k,.int .i64 ((x.c j).p p).key.n,.int .i64 ((x.c j).p p).key.a,.int .i64 ((x.c j).p p).val.k,.int .i64 ((x.c j).p p).val.n,.int .i64 ((x.c j).p p).val.a] 154)) wr.heap.size w.heap.size _ ((x.c j).p p) from PBx.new HS);rcases hwk with hwk | hwk | hwk | hwk
            ·have bx2:=bx;rw[hwk] at bx2;go_wp2_with fail;refine(a0k x ((x.c j).p p).key b w.heap.size w.heap.size _ T _ (HH.ext XA) hMM.1 HSA XA.size hn8).mono ?_;rintro e w5 ⟨v5,T5,rfl,hs5,ha5,hm5⟩;have X5:=HSA.mext hm5 XA;have S5:=uU hs5;have A5:=uU ha5;have B5:=uU (BXA.mfr hm5);have P5:=uU (PB.mfr hm5);have bx5:=B5.1;rw[hwk] at bx5;have G5:=uU (show tV x L c T5/\it T5 c=(j:Int)/\c<T5.length/\qC x L j p T5/\(SK (x.c j)->((x.c j).p p).key.k=2->(tgt x ((x.c j).p p).key:Int)∈T5) from AtC.mark hinv A5 (λe=>dK.key j p RJ hpl ⟨by omega,by omega⟩ e));obtain⟨u0,u1,u2,u3,u4,u5⟩:=P5.c;clear hm5 hs5 ha5 e0 e1 e2 e3 e4 e5 bx2;go_wp2_with fail;refine(a2z x ((x.c j).p p).key b _ (HH.ext X5) hMM.1).mono ?_;rintro e w6 ⟨t,rfl,ht,hq6⟩;have X6:=X5.trans hq6;have S6:=uU (S5.ext hq6);have B6:=uU (B5.ext hq6);have P6:=uU (P5.ext hq6);have bx6:=B6.1;rw[hwk] at bx6;have hB6:B<w6.heap.size:=uL bx6;obtain⟨z0,z1,z2,z3,z4,z5⟩:=P6.c;have hp6:wr.heap.size<w6.heap.size:=uL z0;have hs6:w.heap.size<w6.heap.size:=S6.hb.2;have xk:=(Ext.refl w6).alloc (.cells #[iv t.k,iv t.n,iv t.a] 152);have X7:=X6.trans xk;have S7:=uU (S6.ext xk);have B7:=uU (B6.ext xk);clear hq6 u0 u1 u2 u3 u4 u5 bx5;rcases uH ht with⟨hk,rfl⟩ | ⟨hk,rfl⟩
             ·have hkb:(((x.c j).p p).key.k != 2)=true:=by simp [hk]
              go_wp2_with fail;refine(a0k x ((x.c j).p p).val b w.heap.size w.heap.size _ T5 _ (HH.ext X7) hMM.2 S7 X7.size hn8).mono ?_;rintro e w8 ⟨v8,T8,rfl,hs8,ha8,hm8⟩
              have R:=uU (show Sn w8 w.heap.size w.heap.size x.cells.length v8 T8/\(tV x L c T8/\it T8 c=(j:Int)/\c<T8.length/\qC x L j (p+1) T8)/\b2a w8 B w.heap.size v8 (x.c j).weak/\Ext w w8 from
               ⟨hs8,tV.val G5 ha8 (λe=>dK.val j p RJ hpl ⟨by omega,by omega⟩ (λe=>(hk e).elim) e),B7.mfr hm8,S7.mext hm8 X7⟩)
              clear hs8 ha8 hm8;go_wp2_with fail;go_roundw
              case rel=>exact⟨p+1,T8,by omega,by go_num,R.1,R.2.1,R.2.2.1,R.2.2.2⟩
              case measure=>simp [intOf];omega
             ·have htl:tgt x ((x.c j).p p).key<x.cells.length:=(hMM.1 hk).2.2.2.2.1;have sn:=S7.s _ htl;obtain⟨tg,etg⟩:∃q,q=tgt x ((x.c j).p p).key:=⟨_,rfl⟩;rw[<-etg] at sn htl xk S7 B7 X7 ⊢;have ETG:=uU etg;clear etg;have t0:(0:Int)<=(tg:Int):=by omega
              have t1:(tg:Int)<(x.cells.length:Int):=by omega
              by_cases hm:(tg:Int)∈T5
              ·have E:decide ((tg:Int)∈T5)=true:=decide_eq_true hm;rw[E] at sn;clear E;go_wp2_with fail;refine(a0k x ((x.c j).p p).val b w.heap.size w.heap.size _ T5 _ (HH.ext X7) hMM.2 S7 X7.size hn8).mono ?_;rintro e w8 ⟨v8,T8,rfl,hs8,ha8,hm8⟩
               have R:=uU (show Sn w8 w.heap.size w.heap.size x.cells.length v8 T8/\(tV x L c T8/\it T8 c=(j:Int)/\c<T8.length/\qC x L j (p+1) T8)/\b2a w8 B w.heap.size v8 (x.c j).weak/\Ext w w8 from
                ⟨hs8,tV.val G5 ha8 (λe=>dK.val j p RJ hpl ⟨by omega,by omega⟩ (λ_=>by rw[<-uH ETG];obtain⟨q,eq,hq⟩:=G5.1.o _ hm;have e3:tg=q:=(by omega);rw[e3];exact hq) e),B7.mfr hm8,S7.mext hm8 X7⟩)
               clear hs8 ha8 hm8;go_wp2_with fail;go_roundw
               case rel=>exact⟨p+1,T8,by omega,by go_num,R.1,R.2.1,R.2.2.1,R.2.2.2⟩
               case measure=>simp [intOf];omega
              ·have E:decide ((tg:Int)∈T5)=false:=decide_eq_false hm;rw[E] at sn;clear E;have R:=uU (show qC x L j (p+1) T5 from G5.2.2.2.1.more G5.2.2.2.2 (λ_ hh=>(hm (by obtain⟨R,e⟩:=G5.1.e;rw[e];exact List.mem_append_left _ (by rw[uH ETG];exact hh hk))).elim));go_wp2_with fail;go_roundw
               case rel=>exact⟨p+1,T5,by omega,by go_num,S7,⟨G5.1,G5.2.1,G5.2.2.1,R⟩,B7,X7⟩
               case measure=>simp [intOf];omega
            ·have bx2:=bx;rw[hwk] at bx2;go_wp2_with fail;have X5:=XA;have S5:=uU HSA;have B5:=uU BXA;have P5:=uU PB;have G5:=uU (show tV x L c T/\it T c=(j:Int)/\c<T.length/\qC x L j p T/\(SK (x.c j)->((x.c j).p p).key.k=2->(tgt x ((x.c j).p p).key:Int)∈T) from⟨hinv.1,hinv.2.1,hinv.2.2.1,hinv.2.2.2,λs=>by unfold SK at s;omega⟩);refine(a2z x ((x.c j).p p).key b _ (HH.ext X5) hMM.1).mono ?_;rintro e w6 ⟨t,rfl,ht,hq6⟩;have X6:=X5.trans hq6;have S6:=uU (S5.ext hq6);have B6:=uU (B5.ext hq6);have P6:=uU (P5.ext hq6);have bx6:=B6.1;rw[hwk] at bx6;have hB6:B<w6.heap.size:=uL bx6;obtain⟨z0,z1,z2,z3,z4,z5⟩:=P6.c;have hp6:wr.heap.size<w6.heap.size:=uL z0;have hs6:w.heap.size<w6.heap.size:=S6.hb.2;have xk:=(Ext.refl w6).alloc (.cells #[iv t.k,iv t.n,iv t.a] 152);have X7:=X6.trans xk;have S7:=uU (S6.ext xk);have B7:=uU (B6.ext xk);clear hq6 e0 e1 e2 e3 e4 e5 bx2;rcases uH ht with⟨hk,rfl⟩ | ⟨hk,rfl⟩
             ·have hkb:(((x.c j).p p).key.k != 2)=true:=by simp [hk]
              go_wp2_with fail;refine(a0k x ((x.c j).p p).val b w.heap.size w.heap.size _ T _ (HH.ext X7) hMM.2 S7 X7.size hn8).mono ?_;rintro e w8 ⟨v8,T8,rfl,hs8,ha8,hm8⟩
              have R:=uU (show Sn w8 w.heap.size w.heap.size x.cells.length v8 T8/\(tV x L c T8/\it T8 c=(j:Int)/\c<T8.length/\qC x L j (p+1) T8)/\b2a w8 B w.heap.size v8 (x.c j).weak/\Ext w w8 from
               ⟨hs8,tV.val G5 ha8 (λe=>dK.val j p RJ hpl ⟨by omega,by omega⟩ (λe=>(hk e).elim) e),B7.mfr hm8,S7.mext hm8 X7⟩)
              clear hs8 ha8 hm8;go_wp2_with fail;go_roundw
              case rel=>exact⟨p+1,T8,by omega,by go_num,R.1,R.2.1,R.2.2.1,R.2.2.2⟩
              case measure=>simp [intOf];omega
             ·have htl:tgt x ((x.c j).p p).key<x.cells.length:=(hMM.1 hk).2.2.2.2.1;have sn:=S7.s _ htl;obtain⟨tg,etg⟩:∃q,q=tgt x ((x.c j).p p).key:=⟨_,rfl⟩;rw[<-etg] at sn htl xk S7 B7 X7 ⊢;have ETG:=uU etg;clear etg;have t0:(0:Int)<=(tg:Int):=by omega
              have t1:(tg:Int)<(x.cells.length:Int):=by omega
              by_cases hm:(tg:Int)∈T
              ·have E:decide ((tg:Int)∈T)=true:=decide_eq_true hm;rw[E] at sn;clear E;go_wp2_with fail;refine(a0k x ((x.c j).p p).val b w.heap.size w.heap.size _ T _ (HH.ext X7) hMM.2 S7 X7.size hn8).mono ?_;rintro e w8 ⟨v8,T8,rfl,hs8,ha8,hm8⟩
               have R:=uU (show Sn w8 w.heap.size w.heap.size x.cells.length v8 T8/\(tV x L c T8/\it T8 c=(j:Int)/\c<T8.length/\qC x L j (p+1) T8)/\b2a w8 B w.heap.size v8 (x.c j).weak/\Ext w w8 from
                ⟨hs8,tV.val G5 ha8 (λe=>dK.val j p RJ hpl ⟨by omega,by omega⟩ (λ_=>by rw[<-uH ETG];obtain⟨q,eq,hq⟩:=G5.1.o _ hm;have e3:tg=q:=(by omega);rw[e3];exact hq) e),B7.mfr hm8,S7.mext hm8 X7⟩)
               clear hs8 ha8 hm8;go_wp2_with fail;go_roundw
               case rel=>exact⟨p+1,T8,by omega,by go_num,R.1,R.2.1,R.2.2.1,R.2.2.2⟩
               case measure=>simp [intOf];omega
              ·have E:decide ((tg:Int)∈T)=false:=decide_eq_false hm;rw[E] at sn;clear E;have R:=uU (show qC x L j (p+1) T from G5.2.2.2.1.more G5.2.2.2.2 (λ_ hh=>(hm (by obtain⟨R,e⟩:=G5.1.e;rw[e];exact List.mem_append_left _ (by rw[uH ETG];exact hh hk))).elim));go_wp2_with fail;go_roundw
               case rel=>exact⟨p+1,T,by omega,by go_num,S7,⟨G5.1,G5.2.1,G5.2.2.1,R⟩,B7,X7⟩
               case measure=>simp [intOf];omega
            ·have bx2:=bx;rw[hwk] at bx2;go_wp2_with fail;refine(a0k x ((x.c j).p p).key b w.heap.size w.heap.size _ T _ (HH.ext XA) hMM.1 HSA XA.size hn8).mono ?_;rintro e w5 ⟨v5,T5,rfl,hs5,ha5,hm5⟩;have X5:=HSA.mext hm5 XA;have S5:=uU hs5;have A5:=uU ha5;have B5:=uU (BXA.mfr hm5);have P5:=uU (PB.mfr hm5);have bx5:=B5.1;rw[hwk] at bx5;have G5:=uU (show tV x L c T5/\it T5 c=(j:Int)/\c<T5.length/\qC x L j p T5/\(SK (x.c j)->((x.c j).p p).key.k=2->(tgt x ((x.c j).p p).key:Int)∈T5) from AtC.mark hinv A5 (λe=>dK.key j p RJ hpl ⟨by omega,by omega⟩ e));obtain⟨u0,u1,u2,u3,u4,u5⟩:=P5.c;clear hm5 hs5 ha5 e0 e1 e2 e3 e4 e5 bx2;go_wp2_with fail;refine(a2z x ((x.c j).p p).key b _ (HH.ext X5) hMM.1).mono ?_;rintro e w6 ⟨t,rfl,ht,hq6⟩;have X6:=X5.trans hq6;have S6:=uU (S5.ext hq6);have B6:=uU (B5.ext hq6);have P6:=uU (P5.ext hq6);have bx6:=B6.1;rw[hwk] at bx6;have hB6:B<w6.heap.size:=uL bx6;obtain⟨z0,z1,z2,z3,z4,z5⟩:=P6.c;have hp6:wr.heap.size<w6.heap.size:=uL z0;have hs6:w.heap.size<w6.heap.size:=S6.hb.2;have xk:=(Ext.refl w6).alloc (.cells #[iv t.k,iv t.n,iv t.a] 152);have X7:=X6.trans xk;have S7:=uU (S6.ext xk);have B7:=uU (B6.ext xk);clear hq6 u0 u1 u2 u3 u4 u5 bx5;have R:=uU (show qC x L j (p+1) T5 from G5.2.2.2.1.more G5.2.2.2.2 (λs=>by unfold SV at s;omega));go_wp2_with fail;go_roundw
             case rel=>exact⟨p+1,T5,by omega,by go_num,S7,⟨G5.1,G5.2.1,G5.2.2.1,R⟩,B7,X7⟩
             case measure=>simp [intOf];omega
            ·have bx2:=bx;rw[hwk] at bx2;go_wp2_with fail;have X5:=XA;have S5:=uU HSA;have B5:=uU BXA;have P5:=uU PB;have G5:=uU (show tV x L c T/\it T c=(j:Int)/\c<T.length/\qC x L j p T/\(SK (x.c j)->((x.c j).p p).key.k=2->(tgt x ((x.c j).p p).key:Int)∈T) from⟨hinv.1,hinv.2.1,hinv.2.2.1,hinv.2.2.2,λs=>by unfold SK at s;omega⟩);refine(a2z x ((x.c j).p p).key b _ (HH.ext X5) hMM.1).mono ?_;rintro e w6 ⟨t,rfl,ht,hq6⟩;have X6:=X5.trans hq6;have S6:=uU (S5.ext hq6);have B6:=uU (B5.ext hq6);have P6:=uU (P5.ext hq6);have bx6:=B6.1;rw[hwk] at bx6;have hB6:B<w6.heap.size:=uL bx6;obtain⟨z0,z1,z2,z3,z4,z5⟩:=P6.c;have hp6:wr.heap.size<w6.heap.size:=uL z0;have hs6:w.heap.size<w6.heap.size:=S6.hb.2;have xk:=(Ext.refl w6).alloc (.cells #[iv t.k,iv t.n,iv t.a] 152);have X7:=X6.trans xk;have S7:=uU (S6.ext xk);have B7:=uU (B6.ext xk);clear hq6 e0 e1 e2 e3 e4 e5 bx2;have R:=uU (show qC x L j (p+1) T from G5.2.2.2.1.more G5.2.2.2.2 (λs=>by unfold SV at s;omega));go_wp2_with fail;go_roundw
             case rel=>exact⟨p+1,T,by omega,by go_num,S7,⟨G5.1,G5.2.1,G5.2.2.1,R⟩,B7,X7⟩
             case measure=>simp [intOf];omega
           ·have hpe:p=(x.c j).prs.length:=by omega
            have R:=uU (show tV x L (c+1) T/\c+1<=T.length by
             obtain⟨i1,i2,i3,i4⟩:=hinv;rw[hpe] at i4;exact⟨i1.step i2 i4,i3⟩)
            clear hs hpe;go_wp2_with fail;go_roundw
            case rel=>exact⟨c+1,T,R.2,by go_num,HS,R.1,hbl⟩
            case measure=>simp [intOf];omega
        ·have hce:c=T.length:=by omega
         have R:=uU (show b8e x (L.length:Int) T by have:=uH hpa;rw[hce] at this;exact this.rest);clear hs hce hgl hpa;go_wp2_with fail;go_roundw
         case rel=>exact⟨_,T,rfl,HS,R,hbl⟩
         case measure=>simp [intOf];omega
theorem c1i[Inhabited uZ](hz:∀q,(default:uZ).z q=none)(x:Hp)(w:World){ar:Option Addr}{kr:Nat}{ac:Option Addr}{kc:Nat}{ag:Option Addr}{kg:Nat}(hR:SlW w (.slice ar x.regs.length kr) x.regs)(hC:SlC w (.slice ac x.cells.length kc) x.cells)(hG:SlI w (.slice ag x.gray.length kg) x.gray)(h0:0<x.regs.length)(n1:x.regs.length<=100)(n2:x.cells.length<=8000)(n3:∀q,q<x.cells.length->(x.c q).prs.length<=200)(n4:x.gray.length<=8000):
  Calls Tryz.prog 83 #[x.v (.slice ar x.regs.length kr) (.slice ac x.cells.length kc) (.slice ag x.gray.length kg)] w λe w'=>∃g,e=.returned (.pointer (some ⟨g,0,none⟩))/\Hid (∃ar kr ac kc vg br bc pb pa pk role,GAt w.heap.size w' g x ar kr ac kc vg br bc pb pa pk role)/\Ext w w':=by
 have xa:=(Ext.refl w).alloc (.cells #[iv x.room,iv x.used,iv x.born,.slice ar x.regs.length kr,.slice ac x.cells.length kc,iv x.phase,iv x.hand,iv x.sub,.slice ag x.gray.length kg,iv x.per,iv x.start,iv x.rounds,iv x.forced] 34);obtain⟨w3,hw3⟩:∃W,W=w.alloc (.cells #[iv x.room,iv x.used,iv x.born,.slice ar x.regs.length kr,.slice ac x.cells.length kc,iv x.phase,iv x.hand,iv x.sub,.slice ag x.gray.length kg,iv x.per,iv x.start,iv x.rounds,iv x.forced] 34):=⟨_,rfl⟩;have hs3:w3.heap.size=w.heap.size+1:=by rw[hw3];simp
 have X3:Ext w w3:=by rw[hw3];exact xa
 have SR:=uU (SlW.ext X3 hR);have SC:=uU (SlC.ext X3 hC);have SG:=uU (SlI.ext X3 hG);have BH:=uU (show dY w3 w.heap.size x (.slice ar x.regs.length kr) (.slice ac x.cells.length kc) (.slice ag x.gray.length kg) by rw[hw3];exact dY.new w x _ _ _ _);have G0:=uU (show dY (w3.alloc (.cells #[iv x.room,iv x.used,iv x.born,.slice none 0 0,.slice ac x.cells.length kc,iv x.phase,iv x.hand,iv x.sub,.slice ag x.gray.length kg,iv x.per,iv x.start,iv x.rounds,iv x.forced] 34)) w3.heap.size x (.slice none 0 0) (.slice ac x.cells.length kc) (.slice ag x.gray.length kg)/\(∀o,(w3.alloc (.cells #[iv x.room,iv x.used,iv x.born,.slice none 0 0,.slice ac x.cells.length kc,iv x.phase,iv x.hand,iv x.sub,.slice ag x.gray.length kg,iv x.per,iv x.start,iv x.rounds,iv x.forced] 34)).frozen? ⟨w3.heap.size,o,none⟩=false) from⟨dY.new w3 x _ _ _ _,λo=>by simp [go_sem]⟩);obtain⟨iw,hiw,hw0,hw1,hw2⟩:=info_parts b5f;obtain⟨iq,hiq,hq0,hq1,hq2⟩:=info_parts a4u;obtain⟨ic,hic,hc0,hc1,hc2⟩:=info_parts a7p;obtain⟨ii,hii,hi0,hi1,hi2⟩:=info_parts b2n;clear hR hC hG xa;go_enter Tryz.func83,Tryz.ntmps83;go_wp2_with fail;rw[<-hw3,<-hs3];have HS3:=uU hs3;have hlt3:w.heap.size<w3.heap.size:=by omega
 clear hw3 hs3;go_loopw [18] (λi wr=>∃(k:Nat) (av:Option Addr) (kv:Nat),k<=x.regs.length/\i=.int .i64 k/\Hid (wr.ownsRow (w3.heap.size+1) 152 3 (.slice av k kv) k ((x.regs.take k).flatMap fW))/\Hid (dY wr w3.heap.size x (.slice av k kv) (.slice ac x.cells.length kc) (.slice ag x.gray.length kg)/\(∀o,wr.frozen? ⟨w3.heap.size,o,none⟩=false))/\Hid (Ext w3 wr)) (λi _=>x.regs.length-(intOf i).toNat)
 case atStart=>exact⟨0,none,0,Nat.zero_le _,rfl,World.ownsRow_nil _ _ _ _,uH G0,(Ext.refl w3).alloc _⟩
 case round=>
  clear G0;obtain⟨k,av,kv,hk,rfl,hown,hgc,hex⟩:=hrel;by_cases hlt:k<x.regs.length
  ·obtain⟨b',o,har,p0,p1,p2⟩:∃b' o,ar=some ⟨b',o,none⟩/\yC w3 b' (o+k*3) x.regs[k]:=by
    obtain⟨ad,cap,e,_,hx⟩:=uH SR;simp only [Value.slice.injEq] at e;rw[e.1];exact hx k hlt
   subst har;have p0:=(uH hex).keep p0;have p1:=(uH hex).keep p1;have p2:=(uH hex).keep p2;have hb':b'<wr.heap.size:=uL p0;have g3:=(uH hgc).1.2.2.2.1;have f3:=(uH hgc).2 3;have hbg:w3.heap.size<wr.heap.size:=uL g3;have hk0:(0:Int)<=(k:Int):=by omega
   have hk1:(k:Int)<(x.regs.length:Int):=by omega
   have ETK:=uU (show x.regs.take (k+1)=x.regs.take k++[x.regs[k]] by rw[List.take_succ_eq_append_getElem hlt]);obtain⟨y,ey⟩:∃y,y=x.regs[k]:=⟨_,rfl⟩;rw[<-ey] at p0 p1 p2 ETK;clear ey;go_wp2_with (at_builtin;refine wpList_append_lies _ rfl _ _ 30 rfl (w3.heap.size+1) 152 iw (.agg #[iv 0,iv 0,iv 0]) 3 24 Tryz.underlying30 hiw hw0 hw1 hw2 rfl (by decide) _ k ((x.regs.take k).flatMap fW) rfl (((uH hown).alloc _).alloc _) _ 1 1 (fW y) rfl rfl ?c1 ?c2 (by decide) ?c3 ?c4 ?c5 _ rfl ?_)
   case c1=>
    intro j u hj
    match j,hj with
    | 0,hj=>simp [fW] at hj;subst hj;simp [go_sem]
    | 1,hj=>simp [fW] at hj;subst hj;simp [go_sem]
    | 2,hj=>simp [fW] at hj;subst hj;simp [go_sem]
   case c2=>intro u hu;simp [fW] at hu;rcases hu with e | e | e <;> subst e <;> first | rfl
   case c3=>unfold maxLen;omega
   case c4=>omega
   case c5=>simp;omega
   intro gb cap5 w5 hown5 hgrow hat hglt;have xb:=((Ext.refl wr).alloc (.cells #[iv y.k,iv y.n,iv y.a] 152)).alloc (.cells #[iv y.k,iv y.n,iv y.a] 152);have BP:=uU (b2p (o:=3) (u:=.slice (some ⟨gb,0,none⟩) (k+1) cap5) (bg:=w3.heap.size) (Nat.lt_succ_self _) ((uH hex).trans xb) (((uH hown).alloc _).alloc _) (Nat.le_refl _) (Nat.lt_of_lt_of_le hbg xb.size) hgrow hown5);have eb:w5.heap[w3.heap.size]?=wr.heap[w3.heap.size]?:=(hgrow.block w3.heap.size (Nat.lt_of_lt_of_le hbg xb.size) (λe=>by have:=((uH hown).lt _ e.symm).1;omega)).trans (xb.block _ hbg);have g5:=(World.cell?_of_block (a:=⟨w3.heap.size,3,none⟩) eb).trans g3;have f5:=(World.frozen?_of_block (a:=⟨w3.heap.size,3,none⟩) eb).trans f3;have HB:=uU (((uH hgc).1.block eb).set3 (.slice (some ⟨gb,0,none⟩) (k+1) cap5));have FZ:=uU (show ∀o,(w5.setCell ⟨w3.heap.size,3,none⟩ (.slice (some ⟨gb,0,none⟩) (k+1) cap5)).frozen? ⟨w3.heap.size,o,none⟩=false from λo=>by rw[World.frozen?_setCell];exact(World.frozen?_of_block (a:=⟨w3.heap.size,o,none⟩) eb).trans ((uH hgc).2 o));clear hown5 hgrow hat xb eb;go_wp2_with fail;go_roundw
   case rel=>
    refine⟨k+1,some ⟨gb,0,none⟩,cap5,hlt,by go_num,?_,⟨uH HB,uH FZ⟩,(uH BP).2.1⟩;rw[uH ETK,List.flatMap_append];refine uU ?_
    simpa using (uH BP).1
   case measure=>simp [intOf];omega
  ·have hk2:k=x.regs.length:=by omega
   subst hk2;have OW:=uU (show wr.ownsRow (w3.heap.size+1) 152 3 (.slice av x.regs.length kv) x.regs.length (x.regs.flatMap fW) by have:=uH hown;rw[List.take_length] at this;exact this);obtain⟨w6,hw6⟩:∃W,W=wr:=⟨_,rfl⟩;subst hw6;have g4:=(uH hgc).1.2.2.2.2.1;have f4:=(uH hgc).2 4;have hbg:w3.heap.size<w6.heap.size:=uL g4;have b4:=(uH hex).keep (uH BH).2.2.2.2.1;have hne1:¬w3.heap.size=w.heap.size:=by omega
   have hne2:¬w.heap.size=w3.heap.size:=by omega
   have C0:=uU (show CS x w3 w6 (w6.setCell ⟨w3.heap.size,4,none⟩ (.slice none 0 0)) (.slice av x.regs.length kv) (.slice none 0 0) (.slice ag x.gray.length kg) 0 [] from
    ⟨World.ownsRow_nil _ _ _ _,by simp,λz hz=>by simp at hz,λi j hi=>by simp at hi,(uH hgc).1.set4 _,λo=>by rw[World.frozen?_setCell];exact(uH hgc).2 o,uX.setCell (S:=λq=>q=w3.heap.size) (uX.refl _ w6) (p:=⟨w3.heap.size,4,none⟩) rfl _,(uH hex).setCell (Nat.le_refl _) _,hbg⟩)
   have X6:=uU (uH hex);have V6:=uU (λq e=>((uH OW).lt q e).2);clear hown hgc hex hlt hk;go_wp2_with fail;clear g4 f4 b4;go_loopw [33] (λi wr=>∃(k:Nat) (avc:Option Addr) (kvc:Nat) (L:List (Cl×Value)),k<=x.cells.length/\i=.int .i64 k/\Hid (CS x w3 w6 wr (.slice av x.regs.length kv) (.slice avc k kvc) (.slice ag x.gray.length kg) k L)) (λi _=>x.cells.length-(intOf i).toNat)
   case atStart=>exact⟨0,none,0,[],Nat.zero_le _,rfl,uH C0⟩
   case round=>
    clear C0;obtain⟨wn,hwn⟩:∃W,W=wr:=⟨_,rfl⟩;subst hwn;obtain⟨k,avc,kvc,L,hk,rfl,hcs⟩:=hrel;by_cases hlt:k<x.cells.length
    ·obtain⟨bc,oc,hac,hbc3,vp0,p0,p1,p2,p3,p4,p5,p6,p7,hP⟩:∃bc oc,ac=some ⟨bc,oc,none⟩/\bc<w3.heap.size/\b7p w3 bc (oc+k*8) (x.c k):=by
      obtain⟨ad,cap,e,_,hx⟩:=uH SC;obtain⟨b2,o2,e2,q⟩:=hx k hlt;rw[Hp.c_eq x k hlt] at q;simp only [Value.slice.injEq] at e;exact⟨b2,o2,e.1.trans e2,let ⟨_,p0,_⟩:=q;uL p0,q⟩
     subst hac;obtain⟨ap,kp,rfl,_,hPx⟩:=hP;have CP:=uU hPx;have X:=(uH hcs).ex;have p0:=X.keep p0;have p1:=X.keep p1;have p2:=X.keep p2;have p3:=X.keep p3;have p4:=X.keep p4;have p5:=X.keep p5;have p6:=X.keep p6;have p7:=X.keep p7;have hl200:=n3 k hlt;have hk0:(0:Int)<=(k:Int):=by omega
     have hk1:(k:Int)<(x.cells.length:Int):=by omega
     have hbc:bc<wn.heap.size:=uL p0;clear hPx X;go_wp2_with fail;have B0:=uU (CB.start wn (x.c k) ap kp 62 62);have hsz2:((wn.alloc (.cells #[iv (x.c k).st,iv (x.c k).kind,iv (x.c k).weak,iv (x.c k).last,iv (x.c k).born,iv (x.c k).color,iv (x.c k).to,.slice ap (x.c k).prs.length kp] 62)).alloc (.cells #[iv (x.c k).st,iv (x.c k).kind,iv (x.c k).weak,iv (x.c k).last,iv (x.c k).born,iv (x.c k).color,iv (x.c k).to,.slice none 0 0] 62)).heap.size=wn.heap.size+2:=by simp
     have HZ2:=uU hsz2;clear p0 p1 p2 p3 p4 p5 p6 p7 hsz2;go_loopw [42] (λi wr=>∃(p:Nat) (avp:Option Addr) (kvp:Nat),p<=(x.c k).prs.length/\i=.int .i64 p/\Hid (wr.ownsRow (wn.heap.size+2) 154 6 (.slice avp p kvp) p (((x.c k).prs.take p).flatMap fP))/\Hid (CB wn wr (x.c k) ap kp (.slice avp p kvp))/\wn.heap.size+2<=wr.heap.size) (λi _=>(x.c k).prs.length-(intOf i).toNat)
     case atStart=>exact⟨0,none,0,Nat.zero_le _,rfl,World.ownsRow_nil _ _ _ _,uH B0,by rw[uH HZ2];exact Nat.le_refl _⟩
     case round=>
      clear B0;obtain⟨p,avp,kvp,hp,rfl,hown,hcb,hsz⟩:=hrel;by_cases hpt:p<(x.c k).prs.length
      ·obtain⟨bp,op,hap,q0,q1,q2,q3,q4,q5⟩:=uH CP p hpt;subst hap;have XX:=(uH hcs).ex.trans (uH hcb).ex;have q0:=XX.keep q0;have q1:=XX.keep q1;have q2:=XX.keep q2;have q3:=XX.keep q3;have q4:=XX.keep q4;have q5:=XX.keep q5;have ETP:=uU (show(x.c k).prs.take (p+1)=(x.c k).prs.take p++[(x.c k).prs[p]] by rw[List.take_succ_eq_append_getElem hpt]);obtain⟨y,ey⟩:∃y,y=(x.c k).prs[p]:=⟨_,rfl⟩;rw[<-ey] at q0 q1 q2 q3 q4 q5 ETP;clear ey XX;have hp0:(0:Int)<=(p:Int):=by omega
       have hp1:(p:Int)<((x.c k).prs.length:Int):=by omega
       have hbp:bp<wr.heap.size:=uL q0;have n7:=(uH hcb).n7;have f7:=(uH hcb).f 7;have hbn:wn.heap.size+1<wr.heap.size:=uL n7;go_wp2_with (at_builtin;refine wpList_append_lies _ rfl _ _ 60 rfl (wn.heap.size+2) 154 iq (.agg #[iv 0,iv 0,iv 0,iv 0,iv 0,iv 0]) 6 48 Tryz.underlying60 hiq hq0 hq1 hq2 rfl (by decide) _ p (((x.c k).prs.take p).flatMap fP) rfl (((uH hown).alloc _).alloc _) _ 1 1 (fP y) rfl rfl ?c1 ?c2 (by decide) ?c3 ?c4 ?c5 _ rfl ?_)
       case c1=>
        intro j u hj
        match j,hj with
        | 0,hj=>simp [fP] at hj;subst hj;simp [go_sem]
        | 1,hj=>simp [fP] at hj;subst hj;simp [go_sem]
        | 2,hj=>simp [fP] at hj;subst hj;simp [go_sem]
        | 3,hj=>simp [fP] at hj;subst hj;simp [go_sem]
        | 4,hj=>simp [fP] at hj;subst hj;simp [go_sem]
        | 5,hj=>simp [fP] at hj;subst hj;simp [go_sem]
       case c2=>intro u hu;simp [fP] at hu;rcases hu with e | e | e | e | e | e <;> subst e <;> first | rfl
       case c3=>unfold maxLen;omega
       case c4=>omega
       case c5=>simp;omega
       intro gb cap5 w5 hown5 hgrow hat hglt;have xb:=((Ext.refl wr).alloc (.cells #[iv y.key.k,iv y.key.n,iv y.key.a,iv y.val.k,iv y.val.n,iv y.val.a] 154)).alloc (.cells #[iv y.key.k,iv y.key.n,iv y.key.a,iv y.val.k,iv y.val.n,iv y.val.a] 154);have BP:=uU (CB.push ((uH hcb).ext xb) (((uH hown).alloc _).alloc _) (by omega) hgrow hown5);have eb:w5.heap[wn.heap.size+1]?=wr.heap[wn.heap.size+1]?:=(hgrow.block (wn.heap.size+1) (Nat.lt_of_lt_of_le hbn xb.size) (λe=>by have:=((uH hown).lt _ e.symm).1;omega)).trans (xb.block _ hbn);have g5:=(World.cell?_of_block (a:=⟨wn.heap.size+1,7,none⟩) eb).trans n7;have f5:=(World.frozen?_of_block (a:=⟨wn.heap.size+1,7,none⟩) eb).trans f7;have hsz9:wn.heap.size+2<=(w5.setCell ⟨wn.heap.size+1,7,none⟩ (.slice (some ⟨gb,0,none⟩) (p+1) cap5)).heap.size:=by have h1:=hgrow.size;simp at h1;simp only [World.setCell,Array.size_modify];omega
       clear hown5 hgrow hat xb eb;go_wp2_with fail;go_roundw
       case rel=>
        refine⟨p+1,some ⟨gb,0,none⟩,cap5,hpt,by go_num,?_,(uH BP).2,hsz9⟩;rw[uH ETP,List.flatMap_append];refine uU ?_
        simpa using (uH BP).1
       case measure=>simp [intOf];omega
      ·have hp2:p=(x.c k).prs.length:=by omega
       subst hp2;have CS1:=uU ((uH hcs).ext (uH hcb).ex);have c4:=(uH CS1).bx.2.2.2.2.1;have cf:=(uH CS1).fz 4;obtain⟨s0,s1,s2,s3,s4,s5,s6⟩:=(uH hcb).n;simp only [Nat.zero_add] at s1 s2 s3 s4 s5 s6;have s7:=(uH hcb).n7;have hbn:wn.heap.size+1<wr.heap.size:=uL s7;have hbg2:w3.heap.size<wr.heap.size:=uL c4
       have HP:=uU (show wr.ownsRow (wn.heap.size+2) 154 6 (x.c k,Value.slice avp (x.c k).prs.length kvp).2 (x.c k,Value.slice avp (x.c k).prs.length kvp).1.prs.length ((x.c k,Value.slice avp (x.c k).prs.length kvp).1.prs.flatMap fP) by
        have:=uH hown;rw[List.take_length] at this;exact this)
       have ZN:=uU (show(x.c k,Value.slice avp (x.c k).prs.length kvp).1=x.cells[k] from(Hp.c_eq x k hlt).symm);have h67:w6.heap.size<=wn.heap.size+2:=by have:=(uH hcs).on.size;omega
       have h6r:w6.heap.size<=wr.heap.size:=by omega
       have hvn:=uU (show ∀q,(Value.slice avc k kvc).ownBlock=some q->q<wn.heap.size+2 from λq e=>by have:=((uH hcs).own.lt q e).2;omega);have hvp:=uU (show ∀y,y∈L->∀q,y.2.ownBlock=some q->q<wn.heap.size+2 from λy hy q e=>by have:=(((uH hcs).prs y hy).1.lt q e).2;omega);have nq:¬wn.heap.size+1=w3.heap.size:=by have:=(uH hcs).on.size;omega
       have nq2:¬w3.heap.size=wn.heap.size+1:=by have:=(uH hcs).on.size;omega
       clear hpt hp;go_wp2_with (at_builtin;refine wpList_append_lies _ rfl _ _ 31 rfl w6.heap.size 62 ic (.agg #[iv 0,iv 0,iv 0,iv 0,iv 0,iv 0,iv 0,.slice none 0 0]) 8 80 Tryz.underlying31 hic hc0 hc1 hc2 rfl (by decide) _ k (L.flatMap fC) rfl ((uH CS1).own.alloc _) _ 1 1 (fC (x.c k,Value.slice avp (x.c k).prs.length kvp)) rfl rfl ?c1 ?c2 (by decide) ?c3 ?c4 ?c5 _ rfl ?_)
       case c1=>
        intro j u hj
        match j,hj with
        | 0,hj=>simp [fC] at hj;subst hj;simp [go_sem]
        | 1,hj=>simp [fC] at hj;subst hj;simp [go_sem]
        | 2,hj=>simp [fC] at hj;subst hj;simp [go_sem]
        | 3,hj=>simp [fC] at hj;subst hj;simp [go_sem]
        | 4,hj=>simp [fC] at hj;subst hj;simp [go_sem]
        | 5,hj=>simp [fC] at hj;subst hj;simp [go_sem]
        | 6,hj=>simp [fC] at hj;subst hj;simp [go_sem]
        | 7,hj=>simp [fC] at hj;subst hj;simp [go_sem]
       case c2=>intro u hu;simp [fC] at hu;rcases hu with e | e | e | e | e | e | e | e <;> subst e <;> first | rfl
       case c3=>unfold maxLen;omega
       case c4=>omega
       case c5=>first | exact h6r | omega | (simp;omega)
       intro gb cap5 w5 hown5 hgrow hat hglt;have xb:=(Ext.refl wr).alloc (.cells #[iv (x.c k).st,iv (x.c k).kind,iv (x.c k).weak,iv (x.c k).last,iv (x.c k).born,iv (x.c k).color,iv (x.c k).to,.slice avp (x.c k).prs.length kvp] 62);have PU:=uU (CS.push (g:=gb) ((uH CS1).ext xb) hlt (uH ZN) hgrow hown5 rfl (by simpa using hat) (uN (uH HP) (λq hq=>xb.block q ((uH HP).lt q hq).2)) h67 (uH hvn) (uH hvp));have eb:w5.heap[w3.heap.size]?=wr.heap[w3.heap.size]?:=(hgrow.block w3.heap.size (Nat.lt_of_lt_of_le hbg2 xb.size) (λe=>by have:=((uH CS1).own.lt _ e.symm).1;have:=(uH CS1).lt;omega)).trans (xb.block _ hbg2);have d4:=(World.cell?_of_block (a:=⟨w3.heap.size,4,none⟩) eb).trans c4;have df:=(World.frozen?_of_block (a:=⟨w3.heap.size,4,none⟩) eb).trans cf;clear hown5 hgrow hat xb eb;go_wp2_with fail;go_roundw
       case rel=>exact⟨k+1,some ⟨gb,0,none⟩,cap5,_,hlt,by go_num,uH PU⟩
       case measure=>simp [intOf];omega
    ·have hk2:k=x.cells.length:=by omega
     subst hk2;have CSE:=uU (uH hcs);have OWn:=uU (show wn.ownsRow (w3.heap.size+1) 152 3 (.slice av x.regs.length kv) x.regs.length (x.regs.flatMap fW) from uN (uH OW) (λq hq=>(uH CSE).on.block q ((uH OW).lt q hq).2 (by have:=((uH OW).lt q hq).1;omega)));have g8:=(uH CSE).bx.2.2.2.2.2.2.2.2.1;have f8:=(uH CSE).fz 8;have hbgn:w3.heap.size<wn.heap.size:=uL g8;have b8:=(uH CSE).ex.keep (uH BH).2.2.2.2.2.2.2.2.1;have Q0:=uU (show dY (wn.setCell ⟨w3.heap.size,8,none⟩ (.slice none 0 0)) w3.heap.size x (.slice av x.regs.length kv) (.slice avc x.cells.length kvc) (.slice none 0 0)/\Nf1 w3.heap.size (wn.setCell ⟨w3.heap.size,8,none⟩ (.slice none 0 0))/\uX (λq=>q=w3.heap.size) wn (wn.setCell ⟨w3.heap.size,8,none⟩ (.slice none 0 0)) from⟨(uH CSE).bx.set8 _,Nf1.set ⟨hbgn,(uH CSE).fz⟩ _ _,uX.setCell (S:=λq=>q=w3.heap.size) (uX.refl _ wn) (p:=⟨w3.heap.size,8,none⟩) rfl _⟩);clear hcs hk hlt;go_wp2_with fail;clear g8 f8 b8;go_loopw [64] (λi wr=>∃(k:Nat) (avg:Option Addr) (kvg:Nat),k<=x.gray.length/\i=.int .i64 k/\Hid (wr.ownsRow wn.heap.size 3 1 (.slice avg k kvg) k ((x.gray.take k).map iv))/\Hid (dY wr w3.heap.size x (.slice av x.regs.length kv) (.slice avc x.cells.length kvc) (.slice avg k kvg)/\Nf1 w3.heap.size wr/\uX (λq=>q=w3.heap.size) wn wr)) (λi _=>x.gray.length-(intOf i).toNat)
     case atStart=>exact⟨0,none,0,Nat.zero_le _,rfl,World.ownsRow_nil _ _ _ _,uH Q0⟩
     case round=>
      clear Q0;obtain⟨k,avg,kvg,hk,rfl,hown,hbx⟩:=hrel;have XR:Ext w3 wr:=(uH hbx).2.2.ext (uH CSE).ex (λq hq e=>by omega);by_cases hlt:k<x.gray.length
      ·obtain⟨bg,og,hag,p0⟩:∃bg og,ag=some ⟨bg,og,none⟩/\yD w3 bg (og+k*1) x.gray[k]:=by
        obtain⟨ad,cap,e,_,hx⟩:=uH SG;simp only [Value.slice.injEq] at e;rw[e.1];exact hx k hlt
       subst hag;have p0:=XR.keep p0;rw[Nat.mul_one] at p0;have g8:=(uH hbx).1.2.2.2.2.2.2.2.2.1;have f8:=(uH hbx).2.1.2 8;have hbg2:w3.heap.size<wr.heap.size:=uL g8;have hwn:=(uH hbx).2.2.size;have hk0:(0:Int)<=(k:Int):=by omega
       have hk1:(k:Int)<(x.gray.length:Int):=by omega
       have ETK:=uU (show x.gray.take (k+1)=x.gray.take k++[x.gray[k]] by rw[List.take_succ_eq_append_getElem hlt]);obtain⟨y,ey⟩:∃y,y=x.gray[k]:=⟨_,rfl⟩;rw[<-ey] at p0 ETK;clear ey;go_wp2_with (at_builtin;refine wpList_append_lies _ rfl _ _ 32 rfl wn.heap.size 3 ii (iv 0) 1 8 Tryz.underlying32 hii hi0 hi1 hi2 rfl (by decide) _ k ((x.gray.take k).map iv) rfl ((uH hown).alloc _) _ 1 1 [iv y] rfl rfl ?c1 ?c2 (by decide) ?c3 ?c4 ?c5 _ rfl ?_)
       case c1=>
        intro j u hj
        match j,hj with
        | 0,hj=>simp at hj;subst hj;simp [go_sem]
       case c2=>intro u hu;simp at hu;subst hu;rfl
       case c3=>unfold maxLen;omega
       case c4=>omega
       case c5=>simp;omega
       intro gb cap5 w5 hown5 hgrow hat hglt;have xb:=(Ext.refl wr).alloc (.cells #[iv y] 3);have eb:w5.heap[w3.heap.size]?=wr.heap[w3.heap.size]?:=(hgrow.block w3.heap.size (Nat.lt_of_lt_of_le hbg2 xb.size) (λe=>by have:=((uH hown).lt _ e.symm).1;omega)).trans (xb.block _ hbg2);have g5:=(World.cell?_of_block (a:=⟨w3.heap.size,8,none⟩) eb).trans g8;have f5:=(World.frozen?_of_block (a:=⟨w3.heap.size,8,none⟩) eb).trans f8;have OW5:=uU (uN (w':=w5.setCell ⟨w3.heap.size,8,none⟩ (.slice (some ⟨gb,0,none⟩) (k+1) cap5)) hown5 (λq hq=>Below.heap_setCell _ _ _ _ (λe=>by have h1:=(hown5.lt q hq).1;have e:q=w3.heap.size:=e;omega)))
       have HB:=uU (show dY (w5.setCell ⟨w3.heap.size,8,none⟩ (.slice (some ⟨gb,0,none⟩) (k+1) cap5)) w3.heap.size x (.slice av x.regs.length kv) (.slice avc x.cells.length kvc) (.slice (some ⟨gb,0,none⟩) (k+1) cap5)/\Nf1 w3.heap.size (w5.setCell ⟨w3.heap.size,8,none⟩ (.slice (some ⟨gb,0,none⟩) (k+1) cap5))/\uX (λq=>q=w3.heap.size) wn (w5.setCell ⟨w3.heap.size,8,none⟩ (.slice (some ⟨gb,0,none⟩) (k+1) cap5)) from
        ⟨((uH hbx).1.block eb).set8 _,(cU (uH hbx).2.1 eb (Nat.le_trans xb.size hgrow.size)).set _ _,by
         have on:=(uH hbx).2.2;refine uX.setCell (S:=λq=>q=w3.heap.size) ?_ (p:=⟨w3.heap.size,8,none⟩) rfl _;refine⟨hgrow.os.trans on.os,hgrow.tape.trans on.tape,hgrow.output.trans on.output,Nat.le_trans on.size (Nat.le_trans xb.size hgrow.size),λq hq hne=>?_⟩;have hq2:q<wr.heap.size:=Nat.lt_of_lt_of_le hq on.size;exact((hgrow.block q (Nat.lt_of_lt_of_le hq2 xb.size) (λe=>by have:=((uH hown).lt q e.symm).1;omega)).trans (xb.block q hq2)).trans (on.block q hq hne)⟩)
       clear hown5 hgrow hat xb eb;go_wp2_with fail;go_roundw
       case rel=>
        refine⟨k+1,some ⟨gb,0,none⟩,cap5,hlt,by go_num,?_,uH HB⟩;rw[uH ETK,List.map_append];refine uU ?_
        simpa using uH OW5
       case measure=>simp [intOf];omega
      ·have hk2:k=x.gray.length:=by omega
       subst hk2
       have FIN:=uU (show ∃ar kr ac kc vg br bc pb pa pk role,GAt w.heap.size wr w3.heap.size x ar kr ac kc vg br bc pb pa pk role from by
        obtain⟨br,bc,pb,pa,pk,role,h⟩:=GAt.start hz (B:=w.heap.size) (uH CSE) (uH OWn) (uH V6) h0 (by omega) (uH hbx).2.2 (uH hbx).1 (uH hbx).2.1 (by have:=uH hown;rw[List.take_length] at this;exact this);exact⟨_,_,_,_,_,br,bc,pb,pa,pk,role,h⟩)
       clear hown hbx;go_wp2_with fail;go_ret;exact⟨_,rfl,uH FIN,X3.trans XR⟩
end Go.Proofs.YtddkhnclmeikfaaGreat
