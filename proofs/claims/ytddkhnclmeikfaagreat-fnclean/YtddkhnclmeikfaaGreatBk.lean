import Derived.Test.YtddkhnclmeikfaaGreatBb
import Derived.ArgAppend
set_option maxRecDepth 100000
set_option maxHeartbeats 100000000
namespace Go.Proofs.YtddkhnclmeikfaaGreat
open Go.RowKit
attribute [local go_sem ↓] Go.wp_at_zero Go.wp_at_succ
variable{x y:Hp}{a B g kr kc br bc:Nat}{w:World}{ar ac:Option Addr}{vg:Value}{pb pk role:Nat->Nat}{pa:Nat->Option Addr}
theorem a5u(w:World)(p:Addr):w.drew.cell? p=w.cell? p:=World.cell?_of_block (a:=p) rfl
theorem a9u(g:Nat):∀(vs:List Value) (o j:Nat) (w:World),(j<o\/o+vs.length<=j)->(w.setCells g o vs).cell? ⟨g,j,none⟩=w.cell? ⟨g,j,none⟩
 | [],_,_,_,_=>rfl
 | v::r,o,j,w,h=>by
  show((w.setCell ⟨g,o,none⟩ v).setCells g (o+1) r).cell? ⟨g,j,none⟩=_;simp only [List.length_cons] at h;rw[a9u g r (o+1) j _ (by omega)];exact uC _ (.inr (by omega))
theorem c1t(g:Nat):∀(vs:List Value) (o k:Nat) (w:World),(∀m,m<vs.length->∃u,w.cell? ⟨g,o+m,none⟩=some u)->k<vs.length->(w.setCells g o vs).cell? ⟨g,o+k,none⟩=vs[k]?
 | [],_,_,_,_,hk=>by simp at hk
 | v::r,o,0,w,hm,_=>by
  show((w.setCell ⟨g,o,none⟩ v).setCells g (o+1) r).cell? ⟨g,o+0,none⟩=_;rw[a9u g r (o+1) (o+0) _ (by omega)];obtain⟨u,hu⟩:=hm 0 (by simp);exact World.cell?_setCell_same _ _ _ hu
 | v::r,o,k+1,w,hm,hk=>by
  show((w.setCell ⟨g,o,none⟩ v).setCells g (o+1) r).cell? ⟨g,o+(k+1),none⟩=_
  have:=c1t g r (o+1) k (w.setCell ⟨g,o,none⟩ v) (λm hm'=>by
   obtain⟨u,hu⟩:=hm (m+1) (by simp;omega);refine⟨u,?_⟩;rw[uC _ (.inr (by omega)),show o+1+m=o+(m+1) by omega];exact hu) (by simpa using hk)
  rw[show o+1+k=o+(k+1) by omega] at this;rw[this];rfl
theorem c8o(L:List Pr):(L.flatMap fP).length=L.length*6:=by
 induction L with
 | nil=>rfl
 | cons a l ih=>simp only [List.flatMap_cons,List.length_append,ih,List.length_cons];simp [fP];omega
theorem fP_at{w:World}{b:Nat}:∀{L:List Pr} {o:Nat},(∀k (hk:k<L.length),tQ w b (o+k*6) L[k])->∀j u,(L.flatMap fP)[j]?=some u->w.cell? ⟨b,o+j,none⟩=some u
 | [],_,_,j,u,hu=>by simp at hu
 | p::l,o,h,j,u,hu=>by
  rw[List.flatMap_cons] at hu;by_cases hj:j<6
  ·have h0:=h 0 (by simp);obtain⟨h0,h1,h2,h3,h4,h5⟩:=h0;simp only [Nat.zero_mul,Nat.add_zero,List.getElem_cons_zero] at h0 h1 h2 h3 h4 h5;rw[List.getElem?_append_left (by simp [fP];exact hj)] at hu
   match j,hj with
   | 0,_=>simp [fP] at hu;rw[<-hu];exact h0
   | 1,_=>simp [fP] at hu;rw[<-hu];exact h1
   | 2,_=>simp [fP] at hu;rw[<-hu];exact h2
   | 3,_=>simp [fP] at hu;rw[<-hu];exact h3
   | 4,_=>simp [fP] at hu;rw[<-hu];exact h4
   | 5,_=>simp [fP] at hu;rw[<-hu];exact h5
  ·have hl:(fP p).length=6:=rfl;rw[List.getElem?_append_right (by rw[hl];omega),hl] at hu
   have:=fP_at (w:=w) (b:=b) (L:=l) (o:=o+6) (λk hk=>by
    have:=h (k+1) (by simp;omega);rw[show o+(k+1)*6=o+6+k*6 by omega] at this
    simpa using this) (j-6) u hu
   rw[show o+6+(j-6)=o+j by omega] at this;exact this
theorem GAt.pplace[Inhabited uQ]{w':World}(h:GAt B w g x ar kr ac kc vg br bc pb pa pk role)(i:Nat)(hi:i<x.A.length)(L:List Pr)(hL:L.length<=pk i)(hk:0<pk i)(o:uZ (λq=>q=bc\/q=pb i) w w')(nfc:Nf1 bc w')(nfp:Nfp (pb i) (pk i) w')(c7:w'.cell? ⟨bc,i*8+7,none⟩=some (.slice (pa i) L.length (pk i)))(co:∀j,j≠i*8+7->w'.cell? ⟨bc,j,none⟩=w.cell? ⟨bc,j,none⟩)
  (hp:∀k,k<L.length->tQ w' (pb i) (k*6) (L.getD k Pr0)) :
  GAt B w' g { x with A:=x.A.set i { x.c i with F:=L } } ar kr ac kc vg br bc pb pa pk role:=by
 have hn:0<x.A.length:=by omega
 have far:∀q,q<w.heap.size->role q≠3->role q≠6+i->w'.heap[q]?=w.heap[q]?:=λq hq hr h6=>o.block q hq (λe=>by
  rcases e with e | e
  ·exact hr (by rw[e];exact h.sp.c hn)
  ·exact h6 (by rw[e];exact h.sp.p i hi hk))
 have hl:({ x with A:=x.A.set i { x.c i with F:=L } }:Hp).A.length=x.A.length:=by simp
 have hc:=Hp.c_set x i { x.c i with F:=L } hi;have hne:∀q,q≠i->(({ x with A:=x.A.set i { x.c i with F:=L } }:Hp).c q)=x.c q:=λq e=>by rw[hc q,if_neg e]
 have hei:(({ x with A:=x.A.set i { x.c i with F:=L } }:Hp).c i)={ x.c i with F:=L }:=by rw[hc i,if_pos rfl]
 have fg:=far g h.nf.1 (by rw[h.sp.g];omega) (by rw[h.sp.g];omega);have pf:∀q,q<x.A.length->q≠i->0<pk q->w'.heap[pb q]?=w.heap[pb q]?:=λq hq hqi hl=>far (pb q) (h.rw.pl q hq hl).2.1.1 (by rw[h.sp.p q hq hl];omega) (by rw[h.sp.p q hq hl];omega)
 have fr:0<x.B.length->w'.heap[br]?=w.heap[br]?:=λhr=>far br (h.rw.nr hr).1.1 (by rw[h.sp.r hr];omega) (by rw[h.sp.r hr];omega)
 refine⟨?_,uV h.nf fg o.size,h.lo,h.ha,λ_=>h.hc hn,⟨λj hj=>?_,λq hq=>?_,λq hq=>?_,λq hq j hj=>?_,λq hq hlq=>?_,λhr=>⟨uV (h.rw.nr hr).1 (fr hr) o.size,(h.rw.nr hr).2⟩,λ_=>⟨nfc,(h.rw.nc hn).2⟩,λ_=>h.rw.d hn,λq q' hq hq' hqq h1 h2=>?_,λq hq=>?_⟩,h.gr.block (λq hq=>far q (h.gr.lt q hq).2 (by rw[h.sp.y q hq];omega) (by rw[h.sp.y q hq];omega)),⟨h.sp.g,h.sp.r,λ_=>h.sp.c hn,h.sp.y,λq hq hlq=>?_⟩,by rw[hl];exact h.kl,h.pr.of (λq hq h1=>far q hq (by rw[h1];omega) (by rw[h1];omega)) (λ_ _ h=>h),λhk=>(h.cc hk).A rfl nfc (λj v _ hv=>?_)⟩
 ·rw[hl];exact h.bx.block fg
 ·exact(h.rw.r j hj).of λm _=>World.cell?_of_block (a:=⟨br,_,none⟩) (fr (by have:j<x.B.length:=hj;omega))
 ·rw[hl] at hq;have key:S7 w' bc (q*8) (x.c q):=(h.rw.s q hq).of λm hm=>co _ (by omega)
  by_cases e:q=i
  ·subst e;rw[hei];exact key
  ·rw[hne q e];exact key
 ·rw[hl] at hq;by_cases e:q=i
  ·subst e;rw[hei];exact c7
  ·rw[hne q e,co _ (by omega)];exact h.rw.p7 q hq
 ·rw[hl] at hq;by_cases e:q=i
  ·subst e;rw[hei] at hj ⊢;exact hp j hj
  ·rw[hne q e] at hj ⊢;exact(h.rw.p q hq j hj).of λm _=>World.cell?_of_block (a:=⟨pb q,_,none⟩) (pf q hq e (h.rw.pw hq (by omega)))
 ·rw[hl] at hq;obtain⟨a1,a2,a3,a4⟩:=h.rw.pl q hq hlq;by_cases e:q=i
  ·subst e;exact⟨a1,nfp,a3,a4⟩
  ·exact⟨a1,a0f a2 (pf q hq e hlq) o.size,a3,a4⟩
 ·rw[hl] at hq hq';exact h.rw.dp q q' hq hq' hqq h1 h2
 ·rw[hl] at hq;by_cases e:q=i
  ·subst e;rw[hei];exact hL
  ·rw[hne q e];exact h.rw.kp q hq
 ·rw[hl] at hq;exact h.sp.p q hq hlq
 ·by_cases e:j=i*8+7
  ·rw[e];exact⟨_,c7⟩
  ·exact⟨v,(co j e).trans hv⟩
abbrev moreP(x:Hp)(i:Nat):Hp:={ x with A:=x.A.set i { x.c i with F:=(x.c i).F++[Pr0] } }
structure AppP[Inhabited uQ](B:Nat)(g:Nat)(x:Hp)(ar:Option Addr)(kr:Nat)(ac:Option Addr)(kc:Nat)(vg:Value)(br bc:Nat)(i:Nat)(v w:World)(a':Option Addr)(k':Nat)(w':World):Prop where
 gk:∀W,Ext w' W->GK B (W.setCell ⟨bc,i*8+7,none⟩ (.slice a' ((x.c i).F.length+1) k')) g (moreP x i) ar kr ac kc vg br bc
 far:∀q,q=g\/q=bc->w'.heap[q]?=w.heap[q]?
 sz:w.heap.size<=w'.heap.size
 ex:Ext v w'
 nf:Nf1 bc w'
theorem c4z(L:List Pr):L.flatMap fP++fP Pr0=(L++[Pr0]).flatMap fP:=by simp
theorem c8q[Inhabited uQ]{B:Nat}{w:World}{g:Nat}{x:Hp}{ar:Option Addr}{kr:Nat}{ac:Option Addr}{kc:Nat}{vg:Value}{br bc:Nat}{pb:Nat->Nat}{pa:Nat->Option Addr}{pk:Nat->Nat}{role:Nat->Nat}(h:GAt B w g x ar kr ac kc vg br bc pb pa pk role)(i:Nat)(hi:i<x.A.length)(r0:0<x.B.length)(h2:(x.c i).F.length<200)(ty:TypeId)(W1:World)(e1:Ext w W1)(ad:Addr)(c:Nat)(hz:∀j u,(fP Pr0)[j]?=some u->W1.cell? (ad.add j)=some u)(v:World)(hv:v.heap.size<=B)(hx:Ext v w):
  ∃a' k' w',(Builtin.append_ #[60,60] ty #[.slice (pa i) (x.c i).F.length (pk i),.slice (some ad) 1 c]).run Tryz.prog W1=.ok (.slice a' ((x.c i).F.length+1) k') w'/\AppP B g x ar kr ac kc vg br bc i v w a' k' w':=by
 have h1:=h.ext e1;obtain⟨i0,hi0,hz0,hz1,hz2⟩:=info_parts a4m;have hn:0<x.A.length:=by omega
 have one:∀u∈fP Pr0,u.oneCell'=true:=λu hu=>by simp [fP,Pr0] at hu;subst hu;rfl
 have hnc:=(h1.rw.nc hn).1;have lk:=h1.rw.kp i hi;by_cases hr:(x.c i).F.length+1<=pk i
 ·have hk:0<pk i:=by omega
  obtain⟨a1,a2,a3,a4⟩:=h1.rw.pl i hi hk
  have hrun:=run_append_room_cells (P:=Tryz.prog) W1 60 ty 154 i0 Tryz.underlying60 hi0 (pb i) 0 (x.c i).F.length (pk i) ad 1 c (fP Pr0) (by rw[hz1];rfl) hz one hr (λj hj=>by
   have hj:j<6:=hj;obtain⟨u,hu⟩:=a2.3 (0+(x.c i).F.length*i0.size+j) (by rw[hz1];omega);rw[hu];rfl) (λj _=>a2.2 _)
  rw[hz1,Nat.zero_add] at hrun;have oP:uZ (λq=>q=pb i) W1 (W1.setCells (pb i) ((x.c i).F.length*6) (fP Pr0)):=b2a (S:=λq=>q=pb i) rfl (uZ.refl _ W1);have nbc:bc≠pb i:=λe=>a3.2 e.symm
  have fbc:=oP.block bc hnc.1 nbc;refine⟨pa i,pk i,_,by rw[a1];exact hrun,⟨λW e=>⟨pb,pa,pk,role,?_⟩,λq hq=>?_,Nat.le_trans e1.size oP.size,oP.ext (hx.trans e1) (λq hq e=>by omega),uV hnc fbc oP.size⟩⟩
  ·have oW:uZ (λq=>q=pb i) W1 W:=oP.trans (uZ.of_ext e);have fW:=oW.block bc hnc.1 nbc;refine h1.pplace i hi ((x.c i).F++[Pr0]) (by simpa using hr) hk (uZ.setCell (oW.mono (λq e=>.inr e)) (p:=⟨bc,i*8+7,none⟩) (.inl rfl) _) ((uV hnc fW oW.size).set _ _) ((a2.put.ext e).set _ _) ?_ (λj hj=>?_) (λk hk=>?_)
   ·rw[List.length_append];exact World.cell?_setCell_same _ _ _ ((World.cell?_of_block (a:=⟨bc,i*8+7,none⟩) fW).trans (h1.rw.p7 i hi))
   ·rw[uC _ (.inr (λe=>hj e.symm))];exact World.cell?_of_block (a:=⟨bc,j,none⟩) fW
   ·have oth:∀m,(W.setCell ⟨bc,i*8+7,none⟩ (.slice (pa i) ((x.c i).F.length+1) (pk i))).cell? ⟨pb i,m,none⟩=(W1.setCells (pb i) ((x.c i).F.length*6) (fP Pr0)).cell? ⟨pb i,m,none⟩:=λm=>by
     rw[uC _ (.inl (λe=>nbc e))];exact(cD e).1 (pb i) m (Nat.lt_of_lt_of_le a2.1 oP.size)
    by_cases ek:k<(x.c i).F.length
    ·have eg:((x.c i).F++[Pr0]).getD k Pr0=(x.c i).p k:=by simp [Cl.p,List.getElem?_append_left ek]
     rw[eg];exact(h1.rw.p i hi k ek).of λj hj=>by rw[oth,a9u (pb i) _ _ _ W1 (by omega)]
    ·have ek2:k=(x.c i).F.length:=by simp at hk;omega
     subst ek2;have eg:((x.c i).F++[Pr0]).getD (x.c i).F.length Pr0=Pr0:=by simp
     rw[eg]
     have key:∀m,m<6->(W.setCell ⟨bc,i*8+7,none⟩ (.slice (pa i) ((x.c i).F.length+1) (pk i))).cell? ⟨pb i,(x.c i).F.length*6+m,none⟩=(fP Pr0)[m]?:=λm hm=>by
      rw[oth];exact c1t (pb i) (fP Pr0) _ m W1 (λm hm=>a2.3 _ (by have:m<6:=hm;omega)) hm
     exact⟨key 0 (by omega),key 1 (by omega),key 2 (by omega),key 3 (by omega),key 4 (by omega),key 5 (by omega)⟩
  ·rcases hq with rfl | rfl
   ·refine(oP.block q h1.nf.1 ?_).trans (e1.block q h.nf.1);exact(λe=>by have s1:=h.sp.g;have s2:=h.sp.p i hi hk;rw[e] at s1;omega)
   ·exact fbc.trans (e1.block q (h.rw.nc hn).1.1)
 ·have grow:∃v' w',(Builtin.append_ #[60,60] ty #[.slice (pa i) (x.c i).F.length (pk i),.slice (some ad) 1 c]).run Tryz.prog W1=.ok v' w'/\w'.ownsRow W1.heap.size 154 6 v' ((x.c i).F.length+1) ((x.c i).F.flatMap fP++fP Pr0)/\W1.grownBy w' none:=by
   have hmax:(x.c i).F.length+1<=maxLen:=by unfold maxLen;omega
   cases ep:pa i with
   | none=>
    have k0:pk i=0:=by
     rcases Nat.eq_zero_or_pos (pk i) with k0 | k0
     ·exact k0
     ·have:=(h1.rw.pl i hi k0).1;rw[ep] at this;cases this
    have l0:(x.c i).F=[]:=List.eq_nil_of_length_eq_zero (by omega);rw[k0,l0];obtain⟨v',w',r1,r2,r3,_⟩:=run_append_own (P:=Tryz.prog) W1 W1.heap.size 60 ty 154 i0 _ 6 48 Tryz.underlying60 hi0 hz0 hz1 hz2 rfl (by decide) (.slice none 0 0) 0 [] (World.ownsRow_nil W1 _ _ _) ad 1 c (fP Pr0) rfl hz one (by unfold maxLen;omega) (by decide) (Nat.le_refl _);exact⟨v',w',r1,r2,r3⟩
   | some b=>
    refine run_append_arg_grows (P:=Tryz.prog) W1 60 ty 154 i0 _ 6 48 Tryz.underlying60 hi0 hz0 hz1 hz2 rfl (by decide) b _ _ ((x.c i).F.flatMap fP) (c8o _) (λj u hu=>?_) ad 1 c (fP Pr0) rfl hz (by omega) hmax (by omega)
    have hj:j<((x.c i).F.flatMap fP).length:=by
     rcases Nat.lt_or_ge j ((x.c i).F.flatMap fP).length with q | q
     ·exact q
     ·rw[List.getElem?_eq_none q] at hu;cases hu
    rw[c8o] at hj;have hk:0<pk i:=by omega
    have hb:=(h1.rw.pl i hi hk).1;rw[ep] at hb;have hb:=Option.some.inj hb;rw[hb,Addr.add_lit];exact fP_at (o:=0) (λk hk=>by rw[Nat.zero_add,Cl.p_eq _ _ hk];exact h1.rw.p i hi k hk) j u hu
  obtain⟨v',w',hrun,hown,hgr⟩:=grow;have eg:Ext W1 w':=⟨hgr.os,hgr.tape,hgr.output,hgr.size,λk hk=>hgr.block k hk (by simp)⟩;obtain⟨a',k',rfl⟩:=c8f hown;refine⟨a',k',w',hrun,⟨λW e=>?_,λq hq=>?_,Nat.le_trans e1.size hgr.size,(hx.trans e1).trans eg,hnc.ext eg⟩⟩
  ·have ow:W.ownsRow W1.heap.size 154 6 (.slice a' ((x.c i).F++[Pr0]).length k') ((x.c i).F++[Pr0]).length (((x.c i).F++[Pr0]).flatMap fP):=by
    rw[<-c4z,List.length_append];exact uN hown (λq hq=>e.block q (hown.lt q hq).2)
   have:=b8y h1 i hi r0 ((x.c i).F++[Pr0]) a' k' (eg.trans e) ow;rw[List.length_append] at this;exact this
  ·rcases hq with rfl | rfl
   ·exact(eg.block q h1.nf.1).trans (e1.block q h.nf.1)
   ·exact(eg.block q hnc.1).trans (e1.block q (h.rw.nc hn).1.1)
theorem c5a[Inhabited uQ]{ops:Array Oper}{o:Oper}{a:Act}{K:Act->World->Prop}{Q:Exit->Act->World->Prop}{E:Prop}(W1:World)(hgd:o.guard=none)(s y:Operand)
  (ho:o.op=.call { callee:=.builtin .append,args:=#[s,y],argTypes:=#[60,60] })
                (h:GAt B w g x ar kr ac kc vg br bc pb pa pk role) (i:Nat) (hi:i<x.A.length) (r0:0<x.B.length) (h2:(x.c i).F.length<200) (e1:Ext w W1) (ad:Addr) (c:Nat)
  (hs:a.eval s=.slice (pa i) (x.c i).F.length (pk i)) (hy:a.eval y=.slice (some ad) 1 c) (hz:∀j u,(fP Pr0)[j]?=some u->W1.cell? (ad.add j)=some u) (v:World) (hv:v.heap.size<=B) (hx:Ext v w)
  (hK:∀a' k' w',AppP B g x ar kr ac kc vg br bc i v w a' k' w'->K (a.put o.dst (.slice a' ((x.c i).F.length+1) k')) w') :
  if Region.wanted o (yielded ops a.tmps)=true then Oper.wp Tryz.prog o a W1 K Q else E:=by
 have hw:Region.wanted o (yielded ops a.tmps)=true:=by simp [Region.wanted,hgd]
 rw[if_pos hw];obtain⟨a',k',w',hr,h3⟩:=c8q h i hi r0 h2 o.type W1 e1 ad c hz v hv hx;unfold Oper.wp execOp;simp only [ho,resolve,invoke,builtin,Sem.run_bind,Sem.run_pure,Result.andThen_ok,List.map_toArray,List.map_cons,List.map_nil,hs,hy,hr];exact hK a' k' w' h3
theorem a6p(x:Hp)(y:Wd):(shadeW x y).B=x.B:=by
 unfold shadeW
 split
 ·exact(cV x _).2.2.2.1
 ·rfl
theorem b0p:∀(ys:List Wd) (z:Hp),(ys.foldl shadeW z).B=z.B
 | [],_=>rfl
 | y::ys,z=>(b0p ys (shadeW z y)).trans (a6p z y)
theorem uregs1(x:Hp):(eZ x).B=x.B:=by
 unfold eZ
 split
 ·rfl
 ·by_cases e:tJ (x.c x.I.toNat)=true
  ·simp only [if_pos e];exact(cV x _).2.2.2.1
  ·simp only [if_neg e]
theorem uregs2(x:Hp):(dY x).B=x.B:=by
 unfold dY
 split
 ·split
  ·exact(a6p _ _).trans (a6p _ _)
  ·rfl
 ·split
  ·exact b0p x.B x
  ·exact b0p x.B x
theorem uregs3(x:Hp):(dQ x).B=x.B:=by
 unfold dQ
 split
 ·rfl
 ·split <;> rfl
theorem uregs5(x:Hp):(eH x).B=x.B:=by
 unfold eH
 split
 ·rfl
 ·split <;> rfl
theorem uregs6(x:Hp):(cN x).B=x.B:=by
 unfold cN zU
 split
 ·rfl
 ·split <;> rfl
def KpN(x y:Hp)(a:Nat):Prop:=(y.r a).k=2/\(y.c (y.at a)).F.length=(x.c (x.at a)).F.length
theorem KpN.same(hr:y.B=x.B)(h2:(x.r a).k=2)(hc:(y.c (x.at a)).F.length=(x.c (x.at a)).F.length):KpN x y a:=by
 have e:y.r a=x.r a:=by unfold Hp.r;rw[hr]
 unfold KpN Hp.at;rw[e];exact⟨h2,hc⟩
theorem KpN.unit4(s:Snd x)(ha:a<16)(h2:(x.r a).k=2):KpN x (unit4 x) a:=by
 obtain⟨_,ea,hi,s1,_⟩:=s.at a ha h2;unfold Go.Proofs.YtddkhnclmeikfaaGreat.unit4
 split
 ·exact KpN.same rfl h2 rfl
 ·rename_i hlt;obtain⟨t,et⟩:∃t,t=cH x:=⟨_,rfl⟩;have ft:=a0o x;rcases a0w x x.A.length with⟨l1,_⟩ | ⟨f,l1,l2,l3,_⟩
  ·omega
  ·rw[l1] at hlt ⊢;rw[<-et] at ft hlt ⊢;have e0:((f:Int)).toNat=f:=by omega
   rw[e0];have tl:t<x.A.length:=by omega
   have t0:=ft.2.2 tl
   have mc:∀q,(eU x t f).c q=if q=f then mvC t else if q=t then x.c f else x.c q:=λq=>by
    show({ ({ x with A:=x.A.set t (x.c f) }:Hp) with A:=(x.A.set t (x.c f)).set f (mvC t) }:Hp).c q=_;rw[Hp.c_set ({ x with A:=x.A.set t (x.c f) }:Hp) f (mvC t) (by simp;omega) q,Hp.c_set x t (x.c f) tl q]
   have er:(eU x t f).r a=mvW t f (x.r a):=by
    have ra:=s.r1.B;unfold Hp.r;show(x.B.map (mvW t f)).getD a Wd0=_;rw[List.getD_eq_getElem?_getD,List.getD_eq_getElem?_getD,List.getElem?_map,List.getElem?_eq_getElem (by omega)];rfl
   unfold KpN Hp.at;rw[er];unfold mvW;by_cases e:(x.r a).a=(f:Int)
   ·rw[if_pos ⟨h2,e⟩];refine⟨rfl,?_⟩;show((eU x t f).c ((t:Int)).toNat).F.length=_;rw[show((t:Int)).toNat=t by omega,mc t,if_neg (by omega),if_pos rfl,e,e0]
   ·rw[if_neg (λu=>e u.2)];refine⟨h2,?_⟩;have hx:(x.r a).a.toNat=x.at a:=rfl;rw[hx,mc,if_neg (by omega),if_neg (λu=>by rw[u] at s1;omega)]
theorem KpN.unit(s:Snd x)(ha:a<16)(h2:(x.r a).k=2):KpN x (dD x) a:=by
 obtain⟨_,ea,hi,s1,nd⟩:=s.at a ha h2;unfold dD
 split
 ·exact KpN.same (uregs1 x) h2 (uprs1 x _)
 split
 ·exact KpN.same (uregs2 x) h2 (uprs2 x _)
 split
 ·rename_i e;exact KpN.same (uregs3 x) h2 (uprs3 x s e _ hi s1 nd)
 split
 ·exact KpN.unit4 s ha h2
 split
 ·exact KpN.same (uregs5 x) h2 (uprs5 x _)
 split
 ·exact KpN.same (uregs6 x) h2 (uprs6 x s _ hi s1)
 ·exact KpN.same rfl h2 rfl
theorem KpN.it{x:Hp}(s:Snd x){a:Nat}(ha:a<16)(h2:(x.r a).k=2):∀k,KpN x (itU k x) a
 | 0=>⟨h2,rfl⟩
 | k+1=>by
  have i:=KpN.it s ha h2 k;have j:=KpN.unit (s.itU k) ha i.1;exact⟨j.1,j.2.trans i.2⟩
theorem KpN.M{z:Hp}{u:Nat}(s:Snd x)(ha:a<16)(h2:(x.r a).k=2)(h:a2t x u z):KpN x z a:=by
 rcases h with h | ⟨_,y,h3,h4⟩
 ·rw[h.2];exact⟨h2,rfl⟩
 ·have sf:=s.forceTo;have sy:=h3.snd sf;obtain⟨k,_,e⟩:=h3;obtain⟨m,_,e2⟩:=h4;have i:KpN (forceTo x) y a:=by rw[e];exact KpN.it sf ha h2 k
  have j:KpN (dN y 1 0) z a:=by rw[e2];exact KpN.it (sy.1.begin sy.2) ha i.1 m
  exact⟨j.1,j.2.trans i.2⟩
theorem b3m.snd{c i:Nat}{cd nm:Int}(s:Snd x)(ha:a<16)(h2:(x.r a).k=2)(hi:i=x.at a)(h:b3m x a c i y cd nm):Snd y:=by
 rcases h.2 with h | ⟨hl,z,hz,h | h⟩
 ·rw[h.2.1];exact s
 ·rw[h.2.1];exact hz.snd s
 ·have sz:=hz.snd s;obtain⟨k1,k2⟩:=KpN.M s ha h2 hz;obtain⟨_,_,p3,p4,_⟩:=sz.at a ha k1;have hu:z.K+c<=z.M:=by have e:=h.1;unfold a2j at e;exact of_decide_eq_true e
  exact h.2.2.snd (sz.grow (z.at a) c p3 p4 (by rw[k2,<-hi];exact hl) hu)
end Go.Proofs.YtddkhnclmeikfaaGreat
