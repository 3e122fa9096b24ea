import Derived.Test.YtddkhnclmeikfaaGreatDn3
import Derived.Test.YtddkhnclmeikfaaGreatMa
namespace Go.Proofs.YtddkhnclmeikfaaGreat
open Go.RowKit
attribute [local go_sem ↓] Go.wp_at_zero Go.wp_at_succ
theorem filter_at{α:Type}(f:α→Bool)(d:α):∀(l:List α) (k:Nat),k<(l.filter f).length→∃j,j<l.length∧(l.filter f).getD k d=l.getD j d∧∀s,(k<((l.take s).filter f).length↔j<s)
 | [],k,h=>by simp at h
 | a::l,k,h=>by
  cases fa:f a
  ·rw[List.filter_cons_of_neg (by simp [fa])] at h ⊢;obtain⟨j,h1,h2,h3⟩:=filter_at f d l k h;refine⟨j+1,by simp;omega,by rw[h2];rfl,fun s=>?_⟩;cases s with
   | zero=>simp
   | succ s=>
    rw[List.take_succ_cons,List.filter_cons_of_neg (by simp [fa]),h3 s];omega
  ·rw[List.filter_cons_of_pos fa] at h ⊢;cases k with
   | zero=>
    refine⟨0,by simp,rfl,fun s=>?_⟩;cases s with
    | zero=>simp
    | succ s=>rw[List.take_succ_cons,List.filter_cons_of_pos fa];simp
   | succ k=>
    obtain⟨j,h1,h2,h3⟩:=filter_at f d l k (by simp at h;exact h);refine⟨j+1,by simp;omega,by exact h2,fun s=>?_⟩;cases s with
    | zero=>simp
    | succ s=>
     rw[List.take_succ_cons,List.filter_cons_of_pos fa,List.length_cons];have:=h3 s;omega
theorem set_np(x:Hp)(j:Nat)(c:Cl)(hc:c.prs.length=(x.c j).prs.length)(q:Nat):(({ x with cells:=x.cells.set j c }:Hp).c q).prs.length=(x.c q).prs.length:=by
 by_cases hj:j<x.cells.length
 ·rw[Hp.c_set x j c hj q]
  split
  ·rename_i e;rw[e];exact hc
  ·rfl
 ·have e:x.cells.set j c=x.cells:=List.set_eq_of_length_le (by omega);rw[e]
theorem shadeH_np(x:Hp)(j q:Nat):((shadeH x j).c q).prs.length=(x.c q).prs.length:=by
 unfold shadeH
 split
 ·exact set_np x j (grayC (x.c j)) rfl q
 ·rfl
theorem shadeW_np(x:Hp)(y:Wd)(q:Nat):((shadeW x y).c q).prs.length=(x.c q).prs.length:=by
 unfold shadeW
 split
 ·exact shadeH_np x _ q
 ·rfl
theorem fold_np(q:Nat):∀(ys:List Wd) (z:Hp),((ys.foldl shadeW z).c q).prs.length=(z.c q).prs.length
 | [],_=>rfl
 | y::ys,z=>(fold_np q ys (shadeW z y)).trans (shadeW_np z y q)
theorem uprs1(x:Hp)(q:Nat):((unit1 x).c q).prs.length=(x.c q).prs.length:=by
 unfold unit1
 split
 ·rfl
 ·by_cases e:spkB (x.c x.hand.toNat)=true
  ·simp only [if_pos e];exact shadeH_np x _ q
  ·simp only [if_neg e];rfl
theorem uprs2(x:Hp)(q:Nat):((unit2 x).c q).prs.length=(x.c q).prs.length:=by
 unfold unit2
 split
 ·rename_i g G _
  split
  ·exact(shadeW_np _ _ q).trans (shadeW_np _ _ q)
  ·exact set_np x g.toNat (blackC (x.c g.toNat)) rfl q
 ·split
  ·exact fold_np q x.regs x
  ·exact fold_np q x.regs x
theorem uprs5(x:Hp)(q:Nat):((unit5 x).c q).prs.length=(x.c q).prs.length:=by
 unfold unit5
 split
 ·rfl
 ·split
  ·exact set_np x x.hand.toNat (mendC x (x.c x.hand.toNat) x.sub.toNat) (by simp [mendC]) q
  ·rfl
theorem take_at{α:Type}(l:List α)(m q:Nat)(d:α)(h:q<m):(l.take m).getD q d=l.getD q d:=by simp [h]
theorem uprs3(x:Hp)(s:Snd x)(hp:x.phase=3)(q:Nat)(hq:q<x.cells.length)(s1:(x.c q).st=1)(nd:¬Doomed x q):((unit3 x).c q).prs.length=(x.c q).prs.length:=by
 have hh:=s.r1.hand;unfold unit3
 split
 ·rfl
 ·have hl:x.hand.toNat<x.cells.length:=by omega
  split
  ·rename_i e;show((({ x with cells:=x.cells.set x.hand.toNat Cl0 }:Hp)).c q).prs.length=_;rw[Hp.c_set x _ _ hl q]
   split
   ·rename_i eq;refine absurd (show Doomed x q from⟨hp,by omega,s1,?_⟩) nd;rw[eq];unfold whB at e;simp at e;exact e.2
   ·rfl
  ·exact set_np x x.hand.toNat (whiteC (x.c x.hand.toNat)) rfl q
theorem uprs6(x:Hp)(s:Snd x)(q:Nat)(hq:q<x.cells.length)(s1:(x.c q).st=1):((unit6 x).c q).prs.length=(x.c q).prs.length:=by
 have hh:=s.r1.hand;unfold unit6
 split
 ·rfl
 ·have e:∀i,i<x.cells.length→((shutH x i).c q)=x.c q:=fun i hi=>by
   unfold shutH
   split
   ·rename_i e2;show((({ x with cells:=x.cells.set i Cl0 }:Hp)).c q)=_;rw[Hp.c_set x _ _ hi q,if_neg (fun u=>by rw[u] at s1;omega)]
   ·rfl
  have el:=e (x.hand-1).toNat (by omega);unfold dropH
  split
  ·rename_i d
   have ne:q≠(x.hand-1).toNat:=fun u=>by
    have:=d.2;rw[←u,e _ hq] at this
    all_goals omega
   have ql:q<(x.hand-1).toNat:=by
    have l:(shutH x (x.hand-1).toNat).cells.length=x.cells.length:=by unfold shutH;split <;> simp
    have:=d.1;omega
   rw[←el];show(((shutH x (x.hand-1).toNat).cells.take (x.hand-1).toNat).getD q Cl0).prs.length=_;rw[take_at _ _ _ _ ql];rfl
  ·rw[el]
def fltC(c:Cl)(f:Pr→Bool):Cl:={ c with prs:=c.prs.filter f }
def fltH(x:Hp)(i:Nat)(f:Pr→Bool)(g:Nat)(t:Int):Hp:={ x with cells:=x.cells.set i (fltC (x.c i) f),used:=x.used-g,sub:=t }
theorem fltH_c(x:Hp)(i:Nat)(f:Pr→Bool)(g:Nat)(t:Int)(hi:i<x.cells.length)(q:Nat):(fltH x i f g t).c q=if q=i then fltC (x.c i) f else x.c q:=Hp.c_set x i (fltC (x.c i) f) hi q
theorem flt_len(f:Pr→Bool)(l:List Pr)(n:Nat):((l.take n).filter f).length≤(l.filter f).length∧((l.take n).filter f).length≤n:=by
 constructor
 ·have e:(l.filter f)=((l.take n).filter f)++((l.drop n).filter f):=by rw[←List.filter_append,List.take_append_drop]
  rw[e,List.length_append];omega
 ·have:=List.length_filter_le f (l.take n);rw[List.length_take] at this;omega
theorem Thin.flt{x:Hp}(h:Snd x)(i:Nat)(hi:i<x.cells.length)(f:Pr→Bool)(g:Nat)(t:Int)(hg:((x.c i).prs.filter f).length+g=(x.c i).prs.length)(ht:t=if scanI x=(i:Int) then ((((x.c i).prs.take x.sub.toNat).filter f).length:Int) else x.sub):Thin x (fltH x i f g t) where
 hl:=by simp [fltH]
 rest:=RestH.refl _
 c:=fun q=>by rw[fltH_c x i f g t hi q];split;(· rename_i t;rw[t];exact⟨rfl,rfl,rfl,rfl,rfl⟩);(· exact⟨rfl,rfl,rfl,rfl,rfl⟩)
 wk:=fun q=>by rw[fltH_c x i f g t hi q];split;(· rename_i t;rw[t];exact .inl rfl);(· exact .inl rfl)
 la:=fun q=>by rw[fltH_c x i f g t hi q];split;(· rename_i t;rw[t];exact .inl rfl);(· exact .inl rfl)
 sp:=fun q=>by rw[fltH_c x i f g t hi q];split;(· rename_i t;rw[t];exact id);(· exact id)
 p:=fun q hq k hk=>by
  rw[fltH_c x i f g t hi q] at hk ⊢;by_cases e:q=i
  ·rw[if_pos e] at hk ⊢;rw[e];obtain⟨j,h1,h2,h3⟩:=filter_at f Pr0 (x.c i).prs k hk;refine⟨j,h1,h2,fun hs=>?_⟩;show(k:Int)<t↔_;rw[ht,if_pos hs];have:=h3 x.sub.toNat;have:=h.r1.sub;omega
  ·rw[if_neg e] at hk ⊢;refine⟨k,hk,rfl,fun hs=>?_⟩;show(k:Int)<t↔_;rw[ht,if_neg (fun u=>by omega)]
 le:=fun q hq=>by
  rw[fltH_c x i f g t hi q];split
  ·rename_i e;rw[e];exact List.length_filter_le _ _
  ·exact Nat.le_refl _
 us:=by
  have u:=units_set2 x.cells i (fltC (x.c i) f) hi;rw[Hp.c_eq x i hi] at u;have h3:=h.r3.1;show x.used-(g:Int)=(units (x.cells.set i (fltC (x.c i) f)):Nat);by_cases s1:(x.c i).st=1
  ·have e1:unitsOf (x.c i)=1+(x.c i).prs.length:=by unfold unitsOf;rw[if_pos s1]
   have e2:unitsOf (fltC (x.c i) f)=1+((x.c i).prs.filter f).length:=by
    unfold unitsOf;show(if (x.c i).st=1 then 1+((x.c i).prs.filter f).length else 0)=_;rw[if_pos s1]
   rw[e1,e2] at u;omega
  ·have e1:unitsOf (x.c i)=0:=by unfold unitsOf;rw[if_neg s1]
   have e2:unitsOf (fltC (x.c i) f)=0:=by
    unfold unitsOf;show(if (x.c i).st=1 then 1+((x.c i).prs.filter f).length else 0)=_;rw[if_neg s1]
   have e3:(x.c i).prs.length=0:=by
    rcases h.r2.1 i hi with z | z | z
    ·exact z.2.1.2.2.2.2.2
    ·exact z.2.1.2.2.2.2.2
    ·exact absurd z.1 s1
   rw[e1,e2] at u;omega
 ul:=by show x.used-(g:Int)≤x.used;omega
 s0:=by
  have:=h.r1.sub;have:=(flt_len f (x.c i).prs x.sub.toNat).2;show 0≤t∧t≤x.sub;rw[ht]
  split <;> omega
 s1:=fun q hq hs=>by
  have k:=h.scan q hs;show t≤_;rw[fltH_c x i f g t hi q,ht];by_cases e:q=i
  ·rw[if_pos e,if_pos (by rw[←e];exact hs)];have:=(flt_len f (x.c i).prs x.sub.toNat).1;show _≤((((x.c i).prs.filter f).length:Nat):Int);omega
  ·rw[if_neg e,if_neg (fun u=>by omega)];exact k
theorem shadeW_regs(x:Hp)(y:Wd):(shadeW x y).regs=x.regs:=by
 unfold shadeW
 split
 ·exact(shade_same x _).2.2.2.1
 ·rfl
theorem fold_regs:∀(ys:List Wd) (z:Hp),(ys.foldl shadeW z).regs=z.regs
 | [],_=>rfl
 | y::ys,z=>(fold_regs ys (shadeW z y)).trans (shadeW_regs z y)
theorem uregs1(x:Hp):(unit1 x).regs=x.regs:=by
 unfold unit1
 split
 ·rfl
 ·by_cases e:spkB (x.c x.hand.toNat)=true
  ·simp only [if_pos e];exact(shade_same x _).2.2.2.1
  ·simp only [if_neg e]
theorem uregs2(x:Hp):(unit2 x).regs=x.regs:=by
 unfold unit2
 split
 ·split
  ·exact(shadeW_regs _ _).trans (shadeW_regs _ _)
  ·rfl
 ·split
  ·exact fold_regs x.regs x
  ·exact fold_regs x.regs x
theorem uregs3(x:Hp):(unit3 x).regs=x.regs:=by
 unfold unit3
 split
 ·rfl
 ·split <;> rfl
theorem uregs5(x:Hp):(unit5 x).regs=x.regs:=by
 unfold unit5
 split
 ·rfl
 ·split <;> rfl
theorem uregs6(x:Hp):(unit6 x).regs=x.regs:=by
 unfold unit6 dropH
 split
 ·rfl
 ·split <;> rfl
def KpN(x y:Hp)(a:Nat):Prop:=(y.r a).k=2∧(y.c (y.at a)).prs.length=(x.c (x.at a)).prs.length
theorem KpN.same{x y:Hp}{a:Nat}(hr:y.regs=x.regs)(h2:(x.r a).k=2)(hc:(y.c (x.at a)).prs.length=(x.c (x.at a)).prs.length):KpN x y a:=by
 have e:y.r a=x.r a:=by unfold Hp.r;rw[hr]
 unfold KpN Hp.at;rw[e];exact⟨h2,hc⟩
theorem KpN.unit4{x:Hp}(s:Snd x){a:Nat}(ha:a<16)(h2:(x.r a).k=2):KpN x (unit4 x) a:=by
 obtain⟨_,ea,hi,s1,_⟩:=s.at a ha h2;unfold Go.Proofs.YtddkhnclmeikfaaGreat.unit4
 split
 ·exact KpN.same rfl h2 rfl
 ·rename_i hlt;obtain⟨t,et⟩:∃t,t=fstFree x:=⟨_,rfl⟩;have ft:=fstFree_is x;rcases lstUsed_is x x.cells.length with⟨l1,_⟩ | ⟨f,l1,l2,l3,_⟩
  ·omega
  ·rw[l1] at hlt ⊢;rw[←et] at ft hlt ⊢;have e0:((f:Int)).toNat=f:=by omega
   rw[e0];have tl:t<x.cells.length:=by omega
   have t0:=ft.2.2 tl
   have mc:∀q,(moveH x t f).c q=if q=f then mvC t else if q=t then x.c f else x.c q:=fun q=>by
    show({ ({ x with cells:=x.cells.set t (x.c f) }:Hp) with cells:=(x.cells.set t (x.c f)).set f (mvC t) }:Hp).c q=_;rw[Hp.c_set ({ x with cells:=x.cells.set t (x.c f) }:Hp) f (mvC t) (by simp;omega) q,Hp.c_set x t (x.c f) tl q]
   have er:(moveH x t f).r a=mvW t f (x.r a):=by
    have ra:=s.r1.regs;unfold Hp.r;show(x.regs.map (mvW t f)).getD a Wd0=_;rw[List.getD_eq_getElem?_getD,List.getD_eq_getElem?_getD,List.getElem?_map,List.getElem?_eq_getElem (by omega)];rfl
   unfold KpN Hp.at;rw[er];unfold mvW;by_cases e:(x.r a).a=(f:Int)
   ·rw[if_pos ⟨h2,e⟩];refine⟨rfl,?_⟩;show((moveH x t f).c ((t:Int)).toNat).prs.length=_;rw[show((t:Int)).toNat=t by omega,mc t,if_neg (by omega),if_pos rfl,e,e0]
   ·rw[if_neg (fun u=>e u.2)];refine⟨h2,?_⟩;have hx:(x.r a).a.toNat=x.at a:=rfl;rw[hx,mc,if_neg (by omega),if_neg (fun u=>by rw[u] at s1;omega)]
theorem KpN.unit{x:Hp}(s:Snd x){a:Nat}(ha:a<16)(h2:(x.r a).k=2):KpN x (unitH x) a:=by
 obtain⟨_,ea,hi,s1,nd⟩:=s.at a ha h2;unfold unitH
 split
 ·exact KpN.same (uregs1 x) h2 (uprs1 x _)
 split
 ·exact KpN.same (uregs2 x) h2 (uprs2 x _)
 split
 ·rename_i e;exact KpN.same (uregs3 x) h2 (uprs3 x s e _ hi s1 nd)
 split
 ·exact KpN.unit4 s ha h2
 split
 ·exact KpN.same (uregs5 x) h2 (uprs5 x _)
 split
 ·exact KpN.same (uregs6 x) h2 (uprs6 x s _ hi s1)
 ·exact KpN.same rfl h2 rfl
theorem KpN.it{x:Hp}(s:Snd x){a:Nat}(ha:a<16)(h2:(x.r a).k=2):∀k,KpN x (itU k x) a
 | 0=>⟨h2,rfl⟩
 | k+1=>by
  have i:=KpN.it s ha h2 k;have j:=KpN.unit (s.itU k) ha i.1;exact⟨j.1,j.2.trans i.2⟩
theorem KpN.room{x z:Hp}{u:Nat}(s:Snd x){a:Nat}(ha:a<16)(h2:(x.r a).k=2)(h:RoomIs x u z):KpN x z a:=by
 rcases h with h | ⟨_,y,h3,h4⟩
 ·rw[h.2];exact⟨h2,rfl⟩
 ·have sf:=s.forceTo;have sy:=h3.snd sf;obtain⟨k,_,e⟩:=h3;obtain⟨m,_,e2⟩:=h4;have i:KpN (forceTo x) y a:=by rw[e];exact KpN.it sf ha h2 k
  have j:KpN (toPh y 1 0) z a:=by rw[e2];exact KpN.it (sy.1.begin sy.2) ha i.1 m
  exact⟨j.1,j.2.trans i.2⟩
theorem GrowIs.snd{x:Hp}{a c i:Nat}{y:Hp}{cd nm:Int}(s:Snd x)(ha:a<16)(h2:(x.r a).k=2)(hi:i=x.at a)(h:GrowIs x a c i y cd nm):Snd y:=by
 rcases h.2 with h | ⟨hl,z,hz,h | h⟩
 ·rw[h.2.1];exact s
 ·rw[h.2.1];exact hz.snd s
 ·have sz:=hz.snd s;obtain⟨k1,k2⟩:=KpN.room s ha h2 hz;obtain⟨_,_,p3,p4,_⟩:=sz.at a ha k1;have hu:z.used+c≤z.room:=by have e:=h.1;unfold fitsB at e;exact of_decide_eq_true e
  exact h.2.2.snd (sz.grow (z.at a) c p3 p4 (by rw[k2,←hi];exact hl) hu)
def ansW(w:World)(k:Int)(a q c n:Int):World:=(w.alloc (.cells #[iv k,iv a,iv q,iv c,iv n] 39)).alloc (.cells #[.int .i64 0,.int .i64 0] 41)
theorem ansW_obj(w:World)(k a q c n:Int):(ansW w k a q c n).heap[w.heap.size+1]?=some (.cells #[iv 0,iv 0] 41):=by
 show(((w.heap.push _).push _)[w.heap.size+1]?)=_;rw[←Array.size_push,Array.getElem?_push_size]
theorem ansW_size(w:World)(k a q c n:Int):(ansW w k a q c n).heap.size=w.heap.size+2:=by
 show((w.heap.push _).push _).size=_;rw[Array.size_push,Array.size_push]
end Go.Proofs.YtddkhnclmeikfaaGreat
