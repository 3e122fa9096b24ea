import Derived.Test.YtddkhnclmeikfaaGreatDn3
import Derived.Test.YtddkhnclmeikfaaGreatMa
set_option maxRecDepth 100000
set_option maxHeartbeats 4000000
namespace Go.Proofs.YtddkhnclmeikfaaGreat
open Go.RowKit
attribute [local go_sem ↓] Go.wp_at_zero Go.wp_at_succ
structure Rnd(x:Hp):Prop where
 s:Snd x
 c:Marking x→Col x
 k:¬Marking x→Kept x
 m4:x.phase=4→∀i j,i<x.cells.length→(x.c i).st=2→(x.c j).st=1→j<i
 m5:(x.phase=5∨x.phase=6)→∀i j,i<x.cells.length→(x.c i).st≠1→(x.c j).st=1→j<i
 m6:x.phase=6→∀i:Nat,x.hand≤(i:Int)→i<x.cells.length→(x.c i).st=1
 m0:x.phase=0→∀i,i<x.cells.length→(x.c i).st=1
theorem Hp.c_out{x:Hp}{i:Nat}(h:x.cells.length≤i):x.c i=Cl0:=by simp [Hp.c,List.getD_eq_getElem?_getD,h]
theorem st_in{x:Hp}{i:Nat}(h:(x.c i).st=1):i<x.cells.length:=by
 rcases Nat.lt_or_ge i x.cells.length with l | l
 ·exact l
 ·rw[Hp.c_out l] at h;simp [Cl0] at h
theorem Rnd.u1{x:Hp}(r:Rnd x)(hp:x.phase=1):Rnd (unit1 x):=by
 obtain⟨o,c,p⟩:=r.s.o1 hp;have s:=r.s.u1 hp;exact⟨s,fun _=>c (r.c (.inl hp)),fun h=>(h p).elim,fun e=>by omega,fun e=>by omega,fun e=>by omega,fun e=>by omega⟩
theorem Rnd.u2{x:Hp}(r:Rnd x)(hp:x.phase=2):Rnd (unit2 x):=by
 obtain⟨o,c,k,p⟩:=r.s.o2 hp;have s:=r.s.u2 hp;have cx:=r.c (.inr hp);exact⟨s,fun h=>c cx (by rcases h with h | h <;> omega),fun h=>k cx (by rcases p with p | p;exact(h (.inr p)).elim;exact p),fun e=>by omega,fun e=>by omega,fun e=>by omega,fun e=>by omega⟩
theorem Rnd.u3{x:Hp}(r:Rnd x)(hp:x.phase=3):Rnd (unit3 x):=by
 obtain⟨o,p⟩:=r.s.o3 hp;have s:=r.s.u3 hp;have kx:=r.k (fun h=>by rcases h with h | h <;> omega);refine⟨s,fun h=>by rcases h with h | h <;> omega,fun _=>o.kept r.s kx,fun e i j hi h2=>?_,fun e=>by omega,fun e=>by omega,fun e=>by omega⟩;unfold unit3 at e hi h2
 split at e
 ·rename_i he;rw[if_pos he] at hi h2;exact(r.s.nomoved (by omega) i hi h2).elim
 ·split at e
  ·have e':x.phase=4:=e;omega
  ·have e':x.phase=4:=e;omega
theorem Rnd.u4{x:Hp}(r:Rnd x)(hp:x.phase=4):Rnd (unit4 x):=by
 have s:=r.s.u4 hp;have kx:=r.k (fun h=>by rcases h with h | h <;> omega);obtain⟨f1,f2,f3⟩:=fstFree_is x;unfold unit4 at s ⊢
 split
 ·rename_i hle;rw[if_pos hle] at s;have o:=ovr_turn (x:=x) (by omega) 5 0 0 x.rounds;refine⟨s,fun h=>?_,fun _=>o.kept r.s kx,fun e=>?_,fun _ i j hi h2 h1=>?_,fun e=>?_,fun e=>?_⟩
  ·rcases h with h | h
   ·have h':(5:Int)=1:=h;omega
   ·have h':(5:Int)=2:=h;omega
  ·have e':(5:Int)=4:=e;omega
  ·have h1':(x.c j).st=1:=h1;have h2':(x.c i).st≠1:=h2;have hi':i<x.cells.length:=hi;have hj:=st_in h1';rcases lstUsed_is x x.cells.length with⟨_,n⟩ | ⟨f,e,hf,hs,nf⟩
   ·exact(n j hj h1').elim
   ·rw[e] at hle
    have jf:j≤f:=by
     rcases Nat.lt_or_ge f j with q | q
     ·exact(nf j q hj h1').elim
     ·exact q
    rcases r.s.r2.1 i hi' with⟨z,_⟩ | ⟨z,_⟩ | ⟨z,_⟩
    ·have:fstFree x≤i:=by
      rcases Nat.lt_or_ge i (fstFree x) with q | q
      ·exact(f2 i q z).elim
      ·exact q
     have:i≠j:=fun q=>by rw[q] at z;omega
     omega
    ·exact r.m4 hp i j hi' z h1'
    ·exact(h2' z).elim
  ·have e':(5:Int)=6:=e;omega
  ·have e':(5:Int)=0:=e;omega
 ·rename_i hlt;rw[if_neg hlt] at s;rcases lstUsed_is x x.cells.length with⟨e,_⟩ | ⟨f,e,hf,hs,nf⟩
  ·omega
  ·have e2:(lstUsed x x.cells.length).toNat=f:=by omega
   rw[e2] at s ⊢;rw[e] at hlt;have htf:fstFree x<f:=by omega
   have h0:=f3 (by omega);have o:=r.s.o4m hp (fstFree x) f htf hf h0 hs;have hc:=move_c (x:=x) (fstFree x) f htf hf;refine⟨s,fun h=>?_,fun _=>o.kept r.s kx,fun _ i j hi h2 h1=>?_,fun e=>?_,fun e=>?_,fun e=>?_⟩
   ·have h':x.phase=1∨x.phase=2:=h;omega
   ·rw[hc] at h1 h2;by_cases a:j=f
    ·rw[if_pos a] at h1;simp [mvC] at h1
    ·rw[if_neg a] at h1
     have jf:j<f:=by
      by_cases b:j=fstFree x
      ·omega
      ·rw[if_neg b] at h1;have hj:=st_in h1;rcases Nat.lt_or_ge f j with q | q
       ·exact(nf j q hj h1).elim
       ·omega
     by_cases a':i=f
     ·omega
     ·rw[if_neg a'] at h2;by_cases b':i=fstFree x
      ·rw[if_pos b',hs] at h2;omega
      ·rw[if_neg b'] at h2;have hi':i<x.cells.length:=by simpa [moveH] using hi
       have:=r.m4 hp i f hi' h2 hs;omega
   ·have e':x.phase=5∨x.phase=6:=e;omega
   ·have e':x.phase=6:=e;omega
   ·have e':x.phase=0:=e;omega
theorem Rnd.u5{x:Hp}(r:Rnd x)(hp:x.phase=5):Rnd (unit5 x):=by
 obtain⟨o,p,st,hl,hd⟩:=r.s.o5 hp;have s:=r.s.u5 hp;have kx:=r.k (fun h=>by rcases h with h | h <;> omega);refine⟨s,fun h=>by rcases h with h | h <;> omega,fun _=>o.kept r.s kx,fun e=>by omega,fun _ i j hi h2 h1=>?_,fun e i h1 h2=>?_,fun e=>by omega⟩
 ·rw[hl] at hi;rw[st] at h1 h2;exact r.m5 (.inl hp) i j hi h2 h1
 ·have:=hd e;omega
theorem Snd.f6{x:Hp}(s:Snd x)(hp:x.phase=6)(i:Nat)(hi:x.hand=(i:Int)+1):(unit6 x).regs=x.regs∧(unit6 x).phase=6∧(unit6 x).hand=i∧((unit6 x).cells.length=x.cells.length∨((unit6 x).cells.length=i∧i+1=x.cells.length∧(x.c i).st≠1))∧
  (∀q,q<(unit6 x).cells.length→q≠i→(unit6 x).c q=x.c q)∧(i<(unit6 x).cells.length→(x.c i).st=1→(unit6 x).c i=x.c i)∧(i<(unit6 x).cells.length→(x.c i).st≠1→((unit6 x).c i).st≠1∧i+1<x.cells.length):=by
 have hh:=s.r1.hand;have h0:¬x.hand=0:=by omega
 have ei:(x.hand-1).toNat=i:=by omega
 have hil:i<x.cells.length:=by omega
 unfold unit6;rw[if_neg h0,ei]
 have sc:∀q,(shutH x i).c q=if (x.c i).st=2∧q=i then Cl0 else x.c q:=fun q=>by
  unfold shutH;by_cases e:(x.c i).st=2
  ·rw[if_pos e];show(x.cells.set i Cl0).getD q Cl0=_;rw[cs_set];by_cases b:q=i
   ·rw[if_pos ⟨b,hil⟩,if_pos ⟨e,b⟩]
   ·rw[if_neg (fun h=>b h.1),if_neg (fun h=>b h.2)];rfl
  ·rw[if_neg e,if_neg (fun h=>e h.1)];rfl
 have sl:(shutH x i).cells.length=x.cells.length:=by unfold shutH;split <;> simp
 have ci:((shutH x i).c i).st=if (x.c i).st=1 then 1 else 0:=by
  rw[sc];rcases s.r2.1 i hil with⟨z,_⟩ | ⟨z,_⟩ | ⟨z,_⟩
  ·rw[z];simp [z]
  ·rw[z];simp [Cl0]
  ·rw[z];simp [z]
 by_cases d:i+1=(shutH x i).cells.length∧((shutH x i).c i).st=0
 ·unfold dropH;rw[if_pos d];have nu:(x.c i).st≠1:=fun e=>by have:=d.2;rw[ci,if_pos e] at this;omega
  have yl:({ shutH x i with cells:=(shutH x i).cells.take i }:Hp).cells.length=i:=by
   show((shutH x i).cells.take i).length=i;rw[List.length_take];omega
  refine⟨rfl,hp,rfl,.inr ⟨yl,by omega,nu⟩,fun q hq hne=>?_,fun h=>absurd (Nat.lt_of_lt_of_eq h yl) (Nat.lt_irrefl _),fun h=>absurd (Nat.lt_of_lt_of_eq h yl) (Nat.lt_irrefl _)⟩;have hq':q<i:=Nat.lt_of_lt_of_eq hq yl
  have e:((shutH x i).cells.take i).getD q Cl0=(shutH x i).c q:=by
   simp only [Hp.c,List.getD_eq_getElem?_getD,List.getElem?_take,if_pos hq']
  show((shutH x i).cells.take i).getD q Cl0=_;rw[e,sc,if_neg (fun h=>by omega)]
 ·unfold dropH;rw[if_neg d];refine⟨rfl,hp,rfl,.inl sl,fun q _ hne=>by rw[sc,if_neg (fun h=>hne h.2)],fun _ e=>by rw[sc,if_neg (fun h=>by omega)],fun _ e=>?_⟩;have z:((shutH x i).c i).st=0:=by rw[ci,if_neg e]
  refine⟨by omega,?_⟩;rcases Nat.lt_or_ge (i+1) x.cells.length with q | q
  ·exact q
  ·exact(d ⟨by omega,z⟩).elim
theorem Snd.o6u{x:Hp}(s:Snd x)(hp:x.phase=6):Ovr x (unit6 x) (fun i=>i):=by
 have hh:=s.r1.hand;by_cases h0:x.hand=0
 ·unfold unit6;rw[if_pos h0];exact ovr_turn (x:=x) (by omega) 0 0 0 (if x.rounds<1000000000 then x.rounds+1 else x.rounds)
 ·obtain⟨i,hi⟩:∃i:Nat,x.hand=(i:Int)+1:=⟨(x.hand-1).toNat,by omega⟩;obtain⟨f1,f2,f3,f4,f5,f6,f7⟩:=s.f6 hp i hi;refine s.o6 hp i f1 (fun q hq hs=>?_) f5 f6 (fun a b=>(f7 a b).1) (by omega);rcases f4 with e | ⟨e1,e2,e3⟩
  ·omega
  ·have:q≠i:=fun e=>e3 (e ▸ hs)
   omega
theorem Rnd.u6{x:Hp}(r:Rnd x)(hp:x.phase=6):Rnd (unit6 x):=by
 have s:=r.s.u6 hp;have kx:=r.k (fun h=>by rcases h with h | h <;> omega);have hh:=r.s.r1.hand;have o:=r.s.o6u hp;by_cases h0:x.hand=0
 ·have e:(unit6 x).phase=0∧(unit6 x).cells=x.cells:=by unfold unit6;rw[if_pos h0];exact⟨rfl,rfl⟩
  refine⟨s,fun h=>by rcases h with h | h <;> omega,fun _=>o.kept r.s kx,fun h=>by omega,fun h=>by omega,fun h=>by omega,fun _ i hi=>?_⟩;rw[e.2] at hi;have:(unit6 x).c i=x.c i:=by unfold Hp.c;rw[e.2]
  rw[this];exact r.m6 hp i (by omega) hi
 ·obtain⟨i,hi⟩:∃i:Nat,x.hand=(i:Int)+1:=⟨(x.hand-1).toNat,by omega⟩;obtain⟨f1,f2,f3,f4,f5,f6,f7⟩:=r.s.f6 hp i hi
  have up:∀q,q<(unit6 x).cells.length→(((unit6 x).c q).st=1↔(x.c q).st=1):=fun q hq=>by
   by_cases e:q=i
   ·subst e;by_cases u:(x.c q).st=1
    ·rw[f6 hq u]
    ·exact⟨fun h=>((f7 hq u).1 h).elim,fun h=>(u h).elim⟩
   ·rw[f5 q hq e]
  refine⟨s,fun h=>by rcases h with h | h <;> omega,fun _=>o.kept r.s kx,fun h=>by omega,fun _ a j ha h2 h1=>?_,fun _ a h1 h2=>?_,fun h=>by omega⟩
  ·have hj:=st_in h1;exact r.m5 (.inr hp) a j (by omega) (fun e=>h2 ((up a ha).2 e)) ((up j hj).1 h1)
  ·rw[f3] at h1;rw[up a h2];by_cases e:a=i
   ·subst e;by_cases u:(x.c a).st=1
    ·exact u
    ·have n1:=(f7 h2 u).2;have:=r.m5 (.inr hp) a (a+1) (by omega) u (r.m6 hp (a+1) (by omega) n1);omega
   ·exact r.m6 hp a (by omega) (by omega)
theorem Rnd.unit{x:Hp}(r:Rnd x):Rnd (unitH x):=by
 unfold unitH
 split
 ·rename_i e;exact r.u1 e
 split
 ·rename_i e;exact r.u2 e
 split
 ·rename_i e;exact r.u3 e
 split
 ·rename_i e;exact r.u4 e
 split
 ·rename_i e;exact r.u5 e
 split
 ·rename_i e;exact r.u6 e
 ·exact r
theorem Rnd.run{x:Hp}(r:Rnd x):∀k,Rnd (itU k x)
 | 0=>r
 | k+1=>(Rnd.run r k).unit
def Mt(x:Hp)(F:Nat→Nat)(m:Nat)(u:Wd):Option Nat→Prop
 | none=>u.k≠2
 | some j=>j<m∧u.k=2∧tgt x u=F j
structure Sm(x:Hp)(F:Nat→Nat)(m n:Nat)(wk:Int)(R K V:Nat→Option Nat)(U:Int):Prop where
 s:Snd x
 m0:0<m
 gd:∀j,j<m→Good x (F j)
 ij:∀i j,i<m→j<m→F i=F j→i=j
 rg:∀k,k<16→Mt x F m (x.r k) (R k)
 l0:(x.c (F 0)).prs.length=n
 wk:(x.c (F 0)).weak=wk
 lj:∀j,0<j→j<m→(x.c (F j)).prs.length=0
 ky:∀p,p<n→Mt x F m ((x.c (F 0)).p p).key (K p)
 vl:∀p,p<n→Mt x F m ((x.c (F 0)).p p).val (V p)
 ns:∀i,¬Speaks (x.c i)
 per:x.per=0
 rm:x.room=1000
 us:x.used≤U
 bn:x.born≤U
theorem Snd.n16{x:Hp}(s:Snd x):x.regs.length=16:=by have:=s.r1.regs;omega
theorem Mt.over{x y:Hp}{F:Nat→Nat}{m:Nat}{φ:Nat→Nat}{u v:Wd}(h:v.k=u.k∧(u.k=2→tgt y v = φ (tgt x u))):∀{e:Option Nat},Mt x F m u e→Mt y (fun j=>φ (F j)) m v e
 | none,q=>by show v.k≠2;rw[h.1];exact q
 | some j,q=>⟨q.1,by rw[h.1];exact q.2.1,by rw[h.2 q.2.1,q.2.2]⟩
theorem not_speaks{y:Hp}(t:Snd y)(h:∀i,Good y i→¬Speaks (y.c i))(i:Nat):¬Speaks (y.c i):=fun sp=>by
 rcases Nat.lt_or_ge i y.cells.length with l | l
 ·exact h i (good_want t.r4 i l (speaks_used t.r2 i l sp) sp) sp
 ·rw[Hp.c_out l] at sp;unfold Speaks Cl0 at sp;rcases sp with e | e <;> simp at e
def Rst(x y:Hp):Prop:=y.per=x.per∧y.room=x.room∧y.born=x.born∧y.used≤x.used
theorem Rst.refl(x:Hp):Rst x x:=⟨rfl,rfl,rfl,Int.le_refl _⟩
theorem Rst.trans{x y z:Hp}(h:Rst x y)(k:Rst y z):Rst x z:=⟨k.1.trans h.1,k.2.1.trans h.2.1,k.2.2.1.trans h.2.2.1,Int.le_trans k.2.2.2 h.2.2.2⟩
theorem rst_shade(x:Hp)(i:Nat):Rst x (shadeH x i):=by unfold shadeH;split <;> exact⟨rfl,rfl,rfl,Int.le_refl _⟩
theorem rst_shadeW(x:Hp)(u:Wd):Rst x (shadeW x u):=by
 unfold shadeW;split
 ·exact rst_shade _ _
 ·exact Rst.refl _
theorem rst_fold:∀(L:List Wd) (x:Hp),Rst x (L.foldl shadeW x)
 | [],x=>Rst.refl x
 | u::L,x=>(rst_shadeW x u).trans (rst_fold L (shadeW x u))
theorem rst_unit(x:Hp):Rst x (unitH x):=by
 unfold unitH
 split
 ·unfold unit1
  split
  ·exact Rst.refl x
  ·dsimp only
   split
   ·exact rst_shade x _
   ·exact Rst.refl x
 split
 ·unfold unit2
  split
  ·split
   ·exact(rst_shadeW x _).trans (rst_shadeW _ _)
   ·exact Rst.refl x
  ·have:=rst_fold x.regs x;unfold lookH
   split
   ·exact this
   ·exact this
 split
 ·unfold unit3
  split
  ·exact Rst.refl x
  ·split
   ·exact⟨rfl,rfl,rfl,by show x.used-(1+((x.c x.hand.toNat).prs.length:Int))≤x.used;omega⟩
   ·exact Rst.refl x
 split
 ·unfold unit4
  split
  ·exact Rst.refl x
  ·exact Rst.refl x
 split
 ·unfold unit5
  split
  ·exact Rst.refl x
  ·split <;> exact Rst.refl x
 split
 ·unfold unit6
  split
  ·exact Rst.refl x
  ·unfold dropH
   split <;> exact Rst.refl x
 ·exact Rst.refl x
theorem Snd.ovrU{x:Hp}(s:Snd x):∃φ,Ovr x (unitH x) φ:=by
 unfold unitH
 split
 ·rename_i e;exact⟨_,(s.o1 e).1⟩
 split
 ·rename_i e;exact⟨_,(s.o2 e).1⟩
 split
 ·rename_i e;exact⟨_,(s.o3 e).1⟩
 split
 ·rename_i hp;obtain⟨f1,f2,f3⟩:=fstFree_is x;unfold unit4
  split
  ·exact⟨_,ovr_turn (x:=x) (by omega) 5 0 0 x.rounds⟩
  ·rename_i hlt;rcases lstUsed_is x x.cells.length with⟨e,_⟩ | ⟨f,e,hf,hs,_⟩
   ·omega
   ·have e2:(lstUsed x x.cells.length).toNat=f:=by omega
    rw[e2];rw[e] at hlt;exact⟨_,s.o4m hp (fstFree x) f (by omega) hf (f3 (by omega)) hs⟩
 split
 ·rename_i e;exact⟨_,(s.o5 e).1⟩
 split
 ·rename_i e;exact⟨_,s.o6u e⟩
 ·exact⟨_,ovr_un rfl rfl (fun _=>rfl) (fun _ g=>g)⟩
theorem Sm.ovr{x y:Hp}{F:Nat→Nat}{m n:Nat}{wk:Int}{R K V:Nat→Option Nat}{U:Int}{φ:Nat→Nat}(h:Sm x F m n wk R K V U)(o:Ovr x y φ)(t:Snd y)(r:Rst x y)(rc:∀j,j<m→Reached x (F j)):Sm y (fun j=>φ (F j)) m n wk R K V U where
 s:=t
 m0:=h.m0
 gd:=fun j hj=>Reached.good t.r2 t.r4 (o.to h.s (rc j hj))
 ij:=fun i j hi hj e=>h.ij i j hi hj (o.ij _ _ (h.gd i hi) (h.gd j hj) e)
 rg:=fun k hk=>by
  have a:k<x.regs.length:=by rw[h.s.n16];exact hk
  have b:k<y.regs.length:=by rw[t.n16];exact hk
  have:=o.rg k a b;rw[Hp.r_eq x k a,Hp.r_eq y k b] at this;exact(h.rg k hk).over this
 l0:=by rw[(o.g _ (h.gd 0 h.m0)).2.2.2];exact h.l0
 wk:=by rw[o.wk _ (h.gd 0 h.m0)];exact h.wk
 lj:=fun j a b=>by rw[(o.g _ (h.gd j b)).2.2.2];exact h.lj j a b
 ky:=fun p hp=>(h.ky p hp).over (o.ky _ p (h.gd 0 h.m0) (by rw[h.l0];exact hp))
 vl:=fun p hp=>(h.vl p hp).over (o.vl _ p (h.gd 0 h.m0) (by rw[h.l0];exact hp))
 ns:=not_speaks t fun j gj sp=>by
  obtain⟨i,gi,rfl⟩:=o.b j gj;exact h.ns i (by unfold Speaks at sp ⊢;rw[←(o.g i gi).2.2.1];exact sp)
 per:=r.1.trans h.per
 rm:=r.2.1.trans h.rm
 us:=Int.le_trans r.2.2.2 h.us
 bn:=by rw[r.2.2.1];exact h.bn
def Rch(m n:Nat)(R K V:Nat→Option Nat):Prop:=R 0=some 0∧∀j,0<j→j<m→(∃k,k<16∧R k=some j)∨∃p,p<n∧(K p=some j∨V p=some j)
theorem Sm.reached{x:Hp}{F:Nat→Nat}{m n:Nat}{wk:Int}{R K V:Nat→Option Nat}{U:Int}(h:Sm x F m n wk R K V U)(c:Rch m n R K V)(j:Nat)(hj:j<m):Reached x (F j):=by
 have reg:∀k j,k<16→R k=some j→Reached x (F j):=fun k j hk e=>by
  have a:k<x.regs.length:=by rw[h.s.n16];exact hk
  have q:=h.rg k hk;rw[e] at q;rw[←q.2.2,←Hp.r_eq x k a];exact Reached.reg k a (by rw[Hp.r_eq x k a];exact q.2.1)
 have r0:=reg 0 0 (by omega) c.1;by_cases e:j=0
 ·rw[e];exact r0
 ·rcases c.2 j (by omega) hj with⟨k,hk,e⟩ | ⟨p,hp,e | e⟩
  ·exact reg k j hk e
  ·have q:=h.ky p hp;rw[e] at q;rw[←q.2.2];exact Reached.key _ p r0 (by rw[h.l0];exact hp) q.2.1
  ·have q:=h.vl p hp;rw[e] at q;rw[←q.2.2];exact Reached.val _ p r0 (by rw[h.l0];exact hp) q.2.1
theorem Sm.units{x:Hp}{F:Nat→Nat}{m n:Nat}{wk:Int}{R K V:Nat→Option Nat}{U:Int}(h:Sm x F m n wk R K V U)(c:Rch m n R K V):∀k,∃G,Sm (itU k x) G m n wk R K V U
 | 0=>⟨F,h⟩
 | k+1=>by
  obtain⟨G,g⟩:=Sm.units h c k;obtain⟨φ,o⟩:=g.s.ovrU;exact⟨_,g.ovr o g.s.unit (rst_unit _) (g.reached c)⟩
theorem Sm.step{x:Hp}{F:Nat→Nat}{m n:Nat}{wk:Int}{R K V:Nat→Option Nat}{U:Int}(h:Sm x F m n wk R K V U)(c:Rch m n R K V)(a k:Nat):∃G,Sm (itU k (stepH x a)) G m n wk R K V U:=by
 have q:∃G,Sm (stepH x a) G m n wk R K V U:=by
  have t:=h.s.stepH a;unfold stepH at t ⊢
  split
  ·rename_i e;rw[if_pos e] at t;exact⟨_,h.ovr (ovr_turn (x:=x) (by omega) 1 0 0 x.rounds) t (Rst.refl x) (h.reached c)⟩
  ·exact⟨F,h⟩
 obtain⟨G,g⟩:=q;exact g.units c k
theorem Sm.node{x:Hp}{F:Nat→Nat}{m n:Nat}{wk:Int}{R K V:Nat→Option Nat}{U:Int}(h:Sm x F m n wk R K V U){i:Nat}(hr:Reached x i):∃j,j<m∧i=F j:=by
 have mt:∀u e,Mt x F m u e→u.k=2→∃j,j<m∧tgt x u=F j:=fun u e q hk=>by
  cases e with
  | none=>exact(q hk).elim
  | some j=>exact⟨j,q.1,q.2.2⟩
 refine hr (fun i=>∃j,j<m∧i=F j) (fun k hk e=>?_) (fun i _ _ sp=>(h.ns i sp).elim) (fun i p ⟨j,hj,e⟩ hp hk=>?_) (fun i p ⟨j,hj,e⟩ hp hk=>?_)
 ·rw[Hp.r_eq x k hk] at e ⊢;exact mt _ _ (h.rg k (by rw[←h.s.n16];exact hk)) e
 ·subst e;by_cases z:j=0
  ·subst z;rw[h.l0] at hp;exact mt _ _ (h.ky p hp) hk
  ·rw[h.lj j (by omega) hj] at hp;omega
 ·subst e;by_cases z:j=0
  ·subst z;rw[h.l0] at hp;exact mt _ _ (h.vl p hp) hk
  ·rw[h.lj j (by omega) hj] at hp;omega
theorem places_any(b bn hd n:Nat)(G:List Int)(w:World)(h:RAt w b bn hd G)(hn:∀i,i<n→w.cell? ⟨bn,i*2,none⟩=some (iv i))(hG:∀g,g∈G→0≤g∧g<n):
  Calls Tryz.prog 100 #[.pointer (some ⟨b,15,none⟩)] w fun e w'=>e=.returned (.slice (some ⟨w.heap.size,0,none⟩) G.length G.length)∧SlI w' (.slice (some ⟨w.heap.size,0,none⟩) G.length G.length) G∧Nf1 w.heap.size w'∧Ext w w':=by
 have r1:=h.r1;have hl:=h.hl;have H:=hide h;have HN:=hide hn;have HG:=hide hG;obtain⟨z,hmk⟩:=mkInts G.length (by omega) w;clear h hn hG;go_enter Tryz.func100,Tryz.ntmps100;go_wp2_with fail;go_loopw [12] (fun i wr=>∃(k:Nat),k≤G.length∧i=.int .i64 k∧Hid ((∀j (hj:j<G.length),j<k→InAt wr w.heap.size (0+j*1) G[j])∧(∀j,j<G.length*1→Open wr w.heap.size j)∧Ext w wr∧Nf1 w.heap.size wr)) (fun i _=>G.length-(intOf i).toNat)
 case atStart=>exact⟨0,Nat.zero_le _,rfl,(fun j _ h=>by omega),(fun j hj=>made_open _ _ _ _ _ (by omega)),(Ext.refl w).alloc _,Nf1.made _ _ _ _⟩
 case round=>
  clear hmk r1;obtain⟨k,hk,rfl,hinv⟩:=hrel;by_cases hlt:k<G.length
  ·have hx:=(unhide hinv).2.2.1;obtain⟨m,hm⟩:∃m,m=(hd+k) % 4000:=⟨_,rfl⟩;have hm4:m<4000:=by rw[hm];exact Nat.mod_lt _ (by omega)
   have hr:((hd:Int)+(k:Int)).tmod 4000=(m:Int):=by have:=ring_idx (hd+k);rw[←hm] at this;simpa using this
   have m0:(0:Int)≤(m:Int):=by omega
   have m1:(m:Int)<4000:=by omega
   have hg:=unhide HG G[k] (List.getElem_mem hlt);obtain⟨j,hj⟩:∃j:Nat,G[k]=(j:Int):=⟨G[k].toNat,by omega⟩;have hjn:j<n:=by omega
   have c0:=hx.keep (unhide H).r0;have h0:=(unhide H).h0;have cm:=hx.keep ((unhide H).rg k hlt);rw[←hm,hj] at cm;have cm:wr.cell? ⟨b,15+m,none⟩=some (.pointer (some ⟨bn,j*2,none⟩)):=cm;have cj:=hx.keep (unhide HN j hjn);have R:=hide (ints_step (w:=w) (wr:=wr) (xs:=G) (k:=k) hlt (unhide hinv).1 (unhide hinv).2.1 hx (unhide hinv).2.2.2);rw[hj] at R;obtain⟨⟨u,cu⟩,fu⟩:=(unhide hinv).2.1 k (by omega);have k0:(0:Int)≤(k:Int):=by omega
   have k1:(k:Int)<(G.length:Int):=by omega
   have nb1:¬w.heap.size=b:=fun e=>by have:=cell_lt (unhide H).r0;simp only at this;omega
   have nb2:¬b=w.heap.size:=fun e=>nb1 e.symm
   clear hg hj hm;go_wp2_with fail
   go_region
   all_goals
    go_wp2_with fail;go_roundw
    case rel=>
     have d:=(Ext.refl (wr.setCell ⟨w.heap.size,k,none⟩ (iv j))).drew;exact⟨k+1,by omega,by go_num,fun j hj hk=>((unhide R).1 j hj hk).ext d,fun j hj=>((unhide R).2.1 j hj).ext d,(unhide R).2.2.1.drew,(unhide R).2.2.2.ext d⟩
    case measure=>simp [intOf];omega
  ·have hk2:k=G.length:=by omega
   have HM:=hide (show SlI wr (.slice (some ⟨w.heap.size,0,none⟩) G.length G.length) G from⟨_,_,rfl,by omega,fun i hi=>⟨_,_,rfl,(unhide hinv).1 i hi (by omega)⟩⟩);clear hk2;go_wp2_with fail;go_ret;exact⟨rfl,unhide HM,(unhide hinv).2.2.2,(unhide hinv).2.2.1⟩
theorem Only.setNew{S:Nat→Prop}{a w:World}(h:Only S a w){p:Addr}(hp:a.heap.size≤p.block)(u:Value):Only S a (w.setCell p u):=
 ⟨h.os,h.tape,h.output,by have:=h.size;simpa [World.setCell] using this,fun k hk hs=>(Below.heap_setCell _ _ _ _ (by omega)).trans (h.block k hk hs)⟩
structure Tdl(w1 wr:World)(x:Hp)(t bN:Nat)(vr vc vg:Value)(pa:Nat→Option Addr)(pk:Nat→Nat)(k:Nat):Prop where
 bx:HBox wr t x vr vc vg
 s:∀q,q<x.cells.length→q<k→S7 wr bN (q*8) (x.c q)∧wr.cell? ⟨bN,q*8+7,none⟩=some (.slice (pa q) (x.c q).prs.length (pk q))
 o:∀j,j<x.cells.length*8→Open wr bN j
 nf:Nf1 bN wr
 on:Only (fun q=>q=t) w1 wr
 lt:t<w1.heap.size∧w1.heap.size≤bN
theorem Tdl.step{w1 wr:World}{x:Hp}{t bN:Nat}{vr vc vg:Value}{pa:Nat→Option Addr}{pk:Nat→Nat}{k:Nat}(h:Tdl w1 wr x t bN vr vc vg pa pk k)(hk:k<x.cells.length):
  Tdl w1 ((((((((wr.setCell ⟨bN,k*8,none⟩ (iv (x.c k).st)).setCell ⟨bN,k*8+1,none⟩ (iv (x.c k).kind)).setCell ⟨bN,k*8+2,none⟩ (iv (x.c k).weak)).setCell ⟨bN,k*8+3,none⟩ (iv (x.c k).last)).setCell ⟨bN,k*8+4,none⟩ (iv (x.c k).born)).setCell ⟨bN,k*8+5,none⟩ (iv (x.c k).color)).setCell ⟨bN,k*8+6,none⟩ (iv (x.c k).to)).setCell ⟨bN,k*8+7,none⟩ (.slice (pa k) (x.c k).prs.length (pk k))).drew x t bN vr vc vg pa pk (k+1):=by
 have hl:=h.lt;have o0:Open wr bN (k*8):=h.o (k*8) (by omega);have o1:=h.o (k*8+1) (by omega);have o2:=h.o (k*8+2) (by omega);have o3:=h.o (k*8+3) (by omega);have o4:=h.o (k*8+4) (by omega);have o5:=h.o (k*8+5) (by omega);have o6:=h.o (k*8+6) (by omega);have o7:=h.o (k*8+7) (by omega)
 have oth:∀b o,(b≠bN∨o<k*8∨k*8+8≤o)→(((((((((wr.setCell ⟨bN,k*8,none⟩ (iv (x.c k).st)).setCell ⟨bN,k*8+1,none⟩ (iv (x.c k).kind)).setCell ⟨bN,k*8+2,none⟩ (iv (x.c k).weak)).setCell ⟨bN,k*8+3,none⟩ (iv (x.c k).last)).setCell ⟨bN,k*8+4,none⟩ (iv (x.c k).born)).setCell ⟨bN,k*8+5,none⟩ (iv (x.c k).color)).setCell ⟨bN,k*8+6,none⟩ (iv (x.c k).to)).setCell ⟨bN,k*8+7,none⟩ (.slice (pa k) (x.c k).prs.length (pk k))).drew).cell? ⟨b,o,none⟩=wr.cell? ⟨b,o,none⟩:=fun b o hb=>by
  rw[drew_cell,cell_other _ (by omega),cell_other _ (by omega),cell_other _ (by omega),cell_other _ (by omega),cell_other _ (by omega),cell_other _ (by omega),cell_other _ (by omega),cell_other _ (by omega)]
 have opn:∀b o,Open wr b o→Open ((((((((wr.setCell ⟨bN,k*8,none⟩ (iv (x.c k).st)).setCell ⟨bN,k*8+1,none⟩ (iv (x.c k).kind)).setCell ⟨bN,k*8+2,none⟩ (iv (x.c k).weak)).setCell ⟨bN,k*8+3,none⟩ (iv (x.c k).last)).setCell ⟨bN,k*8+4,none⟩ (iv (x.c k).born)).setCell ⟨bN,k*8+5,none⟩ (iv (x.c k).color)).setCell ⟨bN,k*8+6,none⟩ (iv (x.c k).to)).setCell ⟨bN,k*8+7,none⟩ (.slice (pa k) (x.c k).prs.length (pk k))).drew b o:=fun b o hb=>((((((((hb.set _ _).set _ _).set _ _).set _ _).set _ _).set _ _).set _ _).set _ _).ext ((Ext.refl _).drew)
 refine⟨h.bx.of fun o _=>oth t o (.inl (by omega)),fun q hq hqk=>?_,fun j hj=>opn bN j (h.o j hj),((((((((h.nf.set _ _).set _ _).set _ _).set _ _).set _ _).set _ _).set _ _).set _ _).ext ((Ext.refl _).drew),?_,hl⟩
 ·by_cases e:q=k
  ·subst e;refine⟨⟨?_,?_,?_,?_,?_,?_,?_⟩,?_⟩
   ·rw[drew_cell,cell_other _ (by omega),cell_other _ (by omega),cell_other _ (by omega),cell_other _ (by omega),cell_other _ (by omega),cell_other _ (by omega),cell_other _ (by omega)];exact o0.same _
   ·rw[drew_cell,cell_other _ (by omega),cell_other _ (by omega),cell_other _ (by omega),cell_other _ (by omega),cell_other _ (by omega),cell_other _ (by omega)];exact(o1.set _ _).same _
   ·rw[drew_cell,cell_other _ (by omega),cell_other _ (by omega),cell_other _ (by omega),cell_other _ (by omega),cell_other _ (by omega)];exact((o2.set _ _).set _ _).same _
   ·rw[drew_cell,cell_other _ (by omega),cell_other _ (by omega),cell_other _ (by omega),cell_other _ (by omega)];exact(((o3.set _ _).set _ _).set _ _).same _
   ·rw[drew_cell,cell_other _ (by omega),cell_other _ (by omega),cell_other _ (by omega)];exact((((o4.set _ _).set _ _).set _ _).set _ _).same _
   ·rw[drew_cell,cell_other _ (by omega),cell_other _ (by omega)];exact(((((o5.set _ _).set _ _).set _ _).set _ _).set _ _).same _
   ·rw[drew_cell,cell_other _ (by omega)];exact((((((o6.set _ _).set _ _).set _ _).set _ _).set _ _).set _ _).same _
   ·rw[drew_cell];exact(((((((o7.set _ _).set _ _).set _ _).set _ _).set _ _).set _ _).set _ _).same _
  ·have hx:=h.s q hq (by omega);exact⟨hx.1.of fun j hj=>oth bN _ (.inr (by omega)),(oth bN _ (.inr (by omega))).trans hx.2⟩
 ·exact((((((((h.on.setNew (p:=⟨bN,k*8,none⟩) hl.2 _).setNew (p:=⟨bN,k*8+1,none⟩) hl.2 _).setNew (p:=⟨bN,k*8+2,none⟩) hl.2 _).setNew (p:=⟨bN,k*8+3,none⟩) hl.2 _).setNew (p:=⟨bN,k*8+4,none⟩) hl.2 _).setNew (p:=⟨bN,k*8+5,none⟩) hl.2 _).setNew (p:=⟨bN,k*8+6,none⟩) hl.2 _).setNew (p:=⟨bN,k*8+7,none⟩) hl.2 _).drew
def upd(R:Nat→Option Nat)(a:Nat)(e:Option Nat):Nat→Option Nat:=fun k=>if k=a then e else R k
theorem r_regTo(x:Hp)(a:Nat)(u:Wd)(ha:a<x.regs.length)(k:Nat):(regTo x a u).r k=if k=a then u else x.r k:=by
 unfold Hp.r regTo;simp only [List.getD_eq_getElem?_getD,List.getElem?_set];by_cases e:k=a
 ·subst e;simp [ha]
 ·rw[if_neg (fun q=>e q.symm),if_neg e]
theorem Sm.reg{x:Hp}{F:Nat→Nat}{m n:Nat}{wk:Int}{R K V:Nat→Option Nat}{U:Int}(h:Sm x F m n wk R K V U)(a:Nat)(ha:a<16)(u:Wd)(e:Option Nat)(q:Mt x F m u e)(t:Snd (regTo x a u)):Sm (regTo x a u) F m n wk (upd R a e) K V U where
 s:=t
 m0:=h.m0
 gd:=h.gd
 ij:=h.ij
 rg:=fun k hk=>by
  have mt:∀v e,Mt x F m v e→Mt (regTo x a u) F m v e:=fun v e=>by cases e <;> exact id
  rw[r_regTo x a u (by rw[h.s.n16];exact ha)];unfold upd;by_cases z:k=a
  ·rw[if_pos z,if_pos z];exact mt _ _ q
  ·rw[if_neg z,if_neg z];exact mt _ _ (h.rg k hk)
 l0:=h.l0
 wk:=h.wk
 lj:=h.lj
 ky:=fun p hp=>by have:=h.ky p hp;cases e:K p <;> rw[e] at this <;> exact this
 vl:=fun p hp=>by have:=h.vl p hp;cases e:V p <;> rw[e] at this <;> exact this
 ns:=h.ns
 per:=h.per
 rm:=h.rm
 us:=h.us
 bn:=h.bn
theorem Sm.at{x:Hp}{F:Nat→Nat}{m n:Nat}{wk:Int}{R K V:Nat→Option Nat}{U:Int}(h:Sm x F m n wk R K V U)(a:Nat)(ha:a<16)(j:Nat)(e:R a=some j):(x.r a).k=2∧x.at a=F j:=by
 have q:=h.rg a ha;rw[e] at q;obtain⟨_,_,p3,p4,p5⟩:=h.s.at a ha q.2.1;refine⟨q.2.1,?_⟩;rw[←q.2.2];unfold tgt;rw[lead_no (show(x.c (x.r a).a.toNat).st≠2 by have:(x.c (x.r a).a.toNat).st=1:=p4;omega)];rfl
theorem Sm.turn{x y:Hp}{F:Nat→Nat}{m n n':Nat}{wk wk':Int}{R K V K' V':Nat→Option Nat}{U:Int}(h:Sm x F m n wk R K V U)(t:Snd y)(hr:y.regs=x.regs)(hl:y.cells.length=x.cells.length)(hp:y.phase=x.phase)(hh:y.hand=x.hand)
  (hs:∀q,(y.c q).st=(x.c q).st∧(y.c q).to=(x.c q).to∧(y.c q).last=(x.c q).last) (hc:∀q,(x.c q).color≠0→(y.c q).color≠0) (hj:∀j,0<j→j<m→(y.c (F j)).prs.length=0)
  (hn:(y.c (F 0)).prs.length=n') (hw:(y.c (F 0)).weak=wk') (hk:∀p,p<n'→Mt x F m ((y.c (F 0)).p p).key (K' p)) (hv:∀p,p<n'→Mt x F m ((y.c (F 0)).p p).val (V' p)) (r:Rst x y):Sm y F m n' wk' R K' V' U:=by
 have tg:∀u,tgt y u=tgt x u:=fun u=>by unfold tgt lead2;rw[(hs _).1,(hs _).2.1]
 have mt:∀u e,Mt x F m u e→Mt y F m u e:=fun u e=>by
  cases e with
  | none=>exact id
  | some j=>exact fun q=>⟨q.1,q.2.1,by rw[tg];exact q.2.2⟩
 exact {
  s:=t,m0:=h.m0
  gd:=fun j b=>⟨by rw[hl];exact(h.gd j b).1,by rw[(hs _).1];exact(h.gd j b).2.1,fun d=>(h.gd j b).2.2 ⟨by rw[←hp];exact d.1,by rw[←hh];exact d.2.1,(h.gd j b).2.1,Classical.byContradiction fun z=>hc _ z d.2.2.2⟩⟩
  ij:=h.ij
  rg:=fun k b=>by have:=mt _ _ (h.rg k b);unfold Hp.r at this ⊢;rw[hr];exact this
  l0:=hn,wk:=hw,lj:=hj
  ky:=fun p b=>mt _ _ (hk p b)
  vl:=fun p b=>mt _ _ (hv p b)
  ns:=fun i sp=>h.ns i (by unfold Speaks at sp ⊢;rw[←(hs i).2.2];exact sp)
  per:=r.1.trans h.per
  rm:=r.2.1.trans h.rm
  us:=Int.le_trans r.2.2.2 h.us
  bn:=by rw[r.2.2.1];exact h.bn }
theorem Sm.weak{x:Hp}{F:Nat→Nat}{m n:Nat}{wk:Int}{R K V:Nat→Option Nat}{U:Int}(h:Sm x F m n wk R K V U)(c:Int)(t:Snd (setcH x (F 0) (weakC (x.c (F 0)) c))):Sm (setcH x (F 0) (weakC (x.c (F 0)) c)) F m n c R K V U:=by
 have g0:=h.gd 0 h.m0;have hq:∀q,(setcH x (F 0) (weakC (x.c (F 0)) c)).c q=if q=F 0 then weakC (x.c (F 0)) c else x.c q:=fun q=>Hp.c_set x (F 0) _ g0.1 q
 have c0:(setcH x (F 0) (weakC (x.c (F 0)) c)).c (F 0)=weakC (x.c (F 0)) c:=by rw[hq,if_pos rfl]
 refine h.turn t rfl (by simp [setcH]) rfl rfl (fun q=>?_) (fun q z=>?_) (fun j a b=>?_) (by rw[c0];exact h.l0) (by rw[c0];rfl) (fun p b=>by rw[c0];exact h.ky p b) (fun p b=>by rw[c0];exact h.vl p b) (Rst.refl x)
 ·rw[hq];split
  ·rename_i e;rw[e];exact⟨rfl,rfl,rfl⟩
  ·exact⟨rfl,rfl,rfl⟩
 ·rw[hq];split
  ·rename_i e;rw[e] at z;exact z
  ·exact z
 ·rw[hq,if_neg (fun e=>by have:=h.ij j 0 b h.m0 e;omega)];exact h.lj j a b
theorem Sm.put{x:Hp}{F:Nat→Nat}{m n:Nat}{wk:Int}{R K V:Nat→Option Nat}{U:Int}(h:Sm x F m n wk R K V U)(c b:Nat)(hc:c<n)(hb:b<16)(e:Option Nat)(he:R b=e)(C:Cl)(p0:Pr)(hC:C={ x.c (F 0) with prs:=(x.c (F 0)).prs.set c p0 }){K' V':Nat→Option Nat}
  (hk:(p0=⟨x.r b,((x.c (F 0)).p c).val⟩∧K'=upd K c e∧V'=V)∨(p0=⟨((x.c (F 0)).p c).key,x.r b⟩∧K'=K∧V'=upd V c e)) (t:Snd (shadeW (setcH x (F 0) C) (x.r b))):Sm (shadeW (setcH x (F 0) C) (x.r b)) F m n wk R K' V' U:=by
 have g0:=h.gd 0 h.m0;obtain⟨z,hz⟩:∃z,z=setcH x (F 0) C:=⟨_,rfl⟩;have hq:∀q,z.c q=if q=F 0 then C else x.c q:=fun q=>by rw[hz];exact Hp.c_set x (F 0) _ g0.1 q
 have zl:z.cells.length=x.cells.length:=by rw[hz];simp [setcH]
 have zs:∀q,(z.c q).st=(x.c q).st∧(z.c q).to=(x.c q).to∧(z.c q).last=(x.c q).last∧(z.c q).color=(x.c q).color∧(z.c q).weak=(x.c q).weak:=fun q=>by
  rw[hq];split
  ·rename_i e;rw[e,hC];exact⟨rfl,rfl,rfl,rfl,rfl⟩
  ·exact⟨rfl,rfl,rfl,rfl,rfl⟩
 have gb:Good1 z (x.r b):=fun hk2=>by
  obtain⟨_,_,p3,p4,_⟩:=h.s.at b hb hk2;exact⟨by rw[zl];exact p3,by rw[(zs _).1];exact p4⟩
 rw[←hz] at t ⊢;have un:=shadeW_un z (x.r b) gb;have sm:=shadeW_same z (x.r b);have c0:((shadeW z (x.r b)).c (F 0)).prs=(x.c (F 0)).prs.set c p0:=by rw[(un_parts (un (F 0))).2.2.2.2.2.2,hq,if_pos rfl,hC]
 have cp:∀p,((shadeW z (x.r b)).c (F 0)).p p=if p=c then p0 else (x.c (F 0)).p p:=fun p=>by
  unfold Cl.p;rw[c0];simp only [List.getD_eq_getElem?_getD,List.getElem?_set];by_cases q:p=c
  ·subst q;simp [h.l0,hc]
  ·rw[if_neg (fun z=>q z.symm),if_neg q]
 have zx:Rst x z:=by rw[hz];exact Rst.refl x
 refine h.turn t (by rw[sm.1,hz];rfl) (by rw[sm.2.1,zl]) (by rw[sm.2.2.1,hz];rfl) (by rw[sm.2.2.2.1,hz];rfl) (fun q=>?_) (fun q k=>shadeW_mono z _ gb q (by rw[(zs q).2.2.2.1];exact k)) (fun j a k=>?_) (by rw[c0];simp [h.l0]) ?_ (fun p k=>?_) (fun p k=>?_) (zx.trans (rst_shadeW _ _))
 ·have u:=un_parts (un q);have s:=zs q;exact⟨u.1.trans s.1,u.2.2.2.2.2.1.trans s.2.1,u.2.2.2.1.trans s.2.2.1⟩
 ·rw[(un_parts (un (F j))).2.2.2.2.2.2,hq,if_neg (fun e=>by have:=h.ij j 0 k h.m0 e;omega)];exact h.lj j a k
 ·rw[(un_parts (un (F 0))).2.2.1,(zs _).2.2.2.2];exact h.wk
 ·rw[cp];have:=h.rg b hb;rw[he] at this;rcases hk with⟨e1,e2,e3⟩ | ⟨e1,e2,e3⟩
  ·rw[e2];unfold upd;by_cases q:p=c
   ·rw[if_pos q,if_pos q,e1];exact this
   ·rw[if_neg q,if_neg q];exact h.ky p k
  ·rw[e2];by_cases q:p=c
   ·rw[if_pos q,e1,q];exact h.ky c hc
   ·rw[if_neg q];exact h.ky p k
 ·rw[cp];have:=h.rg b hb;rw[he] at this;rcases hk with⟨e1,e2,e3⟩ | ⟨e1,e2,e3⟩
  ·rw[e3];by_cases q:p=c
   ·rw[if_pos q,e1,q];exact h.vl c hc
   ·rw[if_neg q];exact h.vl p k
  ·rw[e3];unfold upd;by_cases q:p=c
   ·rw[if_pos q,if_pos q,e1];exact this
   ·rw[if_neg q,if_neg q];exact h.vl p k
theorem Sm.make{x:Hp}{F:Nat→Nat}{m n:Nat}{wk:Int}{R K V:Nat→Option Nat}{U:Int}(h:Sm x F m n wk R K V U)(a:Nat)(ha:a<16)(t:Snd (regTo (makeH x 0 0) a ⟨2,0,fstFree x⟩)):
  Sm (regTo (makeH x 0 0) a ⟨2,0,fstFree x⟩) (fun j=>if j=m then fstFree x else F j) (m+1) n wk (upd R a (some m)) K V (U+1):=by
 obtain⟨f1,f2,f3⟩:=fstFree_is x;obtain⟨f,hf⟩:∃f,f=fstFree x:=⟨_,rfl⟩;obtain⟨y,hy⟩:∃y,y=regTo (makeH x 0 0) a ⟨2,0,fstFree x⟩:=⟨_,rfl⟩;have hc:∀q,y.c q=if q=f then newC (x.born+1) 0 0 (newCol x f) else x.c q:=fun q=>by rw[hy,hf];exact newCs_c x (regTo (makeH x 0 0) a ⟨2,0,fstFree x⟩) (fstFree x) _ (by omega) rfl q
 have yl:y.cells.length=if f<x.cells.length then x.cells.length else x.cells.length+1:=by rw[hy,hf];exact newCs_len x _ _
 have st0:(x.c f).st≠1:=by
  rcases Nat.lt_or_ge f x.cells.length with l | l
  ·have:=f3 (by omega);rw[hf];omega
  ·rw[Hp.c_out l];simp [Cl0]
 have ne:∀j,j<m→F j≠f:=fun j b e=>st0 (e ▸ (h.gd j b).2.1)
 have yp:y.phase=x.phase:=by rw[hy];rfl
 have yh:y.hand=x.hand:=by rw[hy];rfl
 have nf:f≤x.cells.length:=by omega
 have tg:∀u,MayMark x u→u.k=2→tgt y u=tgt x u:=fun u mu hk=>by
  have gs:=(mu hk).2.2.2.2.2.1
  have n:u.a.toNat≠f:=fun e=>by
   unfold tgt lead2 at gs;rw[e] at gs
   split at gs
   ·rename_i s2;have:(x.c f).st=2:=by simpa using s2
    rcases Nat.lt_or_ge f x.cells.length with l | l
    ·have:=f3 (by omega);rw[←hf] at this;omega
    ·rw[Hp.c_out l] at this;simp [Cl0] at this
   ·exact st0 gs
  unfold tgt lead2;rw[hc,if_neg n]
 have mt:∀u e,MayMark x u→Mt x F m u e→Mt y (fun j=>if j=m then f else F j) (m+1) u e:=fun u e mu q=>by
  cases e with
  | none=>exact q
  | some j=>exact⟨by have:=q.1;omega,q.2.1,by rw[tg u mu q.2.1,q.2.2];show F j=if j=m then f else F j;rw[if_neg (by have:=q.1;omega)]⟩
 have z0:(if (0:Nat)=m then f else F 0)=F 0:=if_neg (by have:=h.m0;omega);have c0:y.c (F 0)=x.c (F 0):=by rw[hc,if_neg (ne 0 h.m0)]
 have cf:y.c f=newC (x.born+1) 0 0 (newCol x f):=by rw[hc,if_pos rfl]
 have mk:=fun p (hp:p<n)=>may_pair h.s.r2 h.s.r4 (F 0) p (h.gd 0 h.m0) (by rw[h.l0];exact hp)
 rw[←hf] at hy t ⊢;rw[←hy] at t ⊢
 exact {
  s:=t,m0:=by omega
  gd:=fun j b=>by
   by_cases e:j=m
   ·rw[if_pos e];refine⟨by rw[yl];split <;> omega,by rw[cf];rfl,fun d=>?_⟩;have d4:=d.2.2.2;rw[cf] at d4;have d1:=d.1;have d2:=d.2.1;rw[yp] at d1;rw[yh] at d2;have:newCol x f=0:=d4;unfold newCol at this;rw[if_pos (.inr (.inr ⟨d1,d2⟩))] at this;omega
   ·rw[if_neg e];have g:=h.gd j (by omega);have e2:y.c (F j)=x.c (F j):=by rw[hc,if_neg (ne j (by omega))]
    refine⟨by have:=g.1;rw[yl];split <;> omega,by rw[e2];exact g.2.1,fun d=>g.2.2 ⟨by rw[←yp];exact d.1,by rw[←yh];exact d.2.1,g.2.1,by rw[←e2];exact d.2.2.2⟩⟩
  ij:=fun i j bi bj e=>by
   by_cases a1:i=m
   ·by_cases a2:j=m
    ·omega
    ·rw[if_pos a1,if_neg a2] at e;exact(ne j (by omega) e.symm).elim
   ·by_cases a2:j=m
    ·rw[if_neg a1,if_pos a2] at e;exact(ne i (by omega) e).elim
    ·rw[if_neg a1,if_neg a2] at e;exact h.ij i j (by omega) (by omega) e
  rg:=fun k hk=>by
   have e:y.r k=if k=a then ⟨2,0,f⟩ else x.r k:=by rw[hy];exact r_regTo (makeH x 0 0) a _ (by show a<x.regs.length;rw[h.s.n16];exact ha) k
   rw[e];unfold upd;by_cases q:k=a
   ·rw[if_pos q,if_pos q];refine⟨by omega,rfl,?_⟩;show lead2 y ((f:Int).toNat)=_;show _=if m=m then f else F m
    rw[if_pos rfl,Int.toNat_natCast,lead_no (by rw[cf];show(1:Int)≠2;omega)]
   ·rw[if_neg q,if_neg q];have l:k<x.regs.length:=by rw[h.s.n16];exact hk
    exact mt _ _ (by rw[←Hp.r_eq x k l];exact may_reg h.s.r2 h.s.r4 k l) (h.rg k hk)
  l0:=by rw[z0,c0];exact h.l0
  wk:=by rw[z0,c0];exact h.wk
  lj:=fun j b1 b2=>by
   by_cases e:j=m
   ·rw[if_pos e,cf];rfl
   ·rw[if_neg e,hc,if_neg (ne j (by omega))];exact h.lj j b1 (by omega)
  ky:=fun p hp=>by rw[z0,c0];exact mt _ _ (mk p hp).1 (h.ky p hp)
  vl:=fun p hp=>by rw[z0,c0];exact mt _ _ (mk p hp).2 (h.vl p hp)
  ns:=fun i sp=>by
   rw[hc] at sp
   split at sp
   ·unfold Speaks newC at sp;rcases sp with e | e <;> simp at e
   ·exact h.ns i sp
  per:=by rw[hy];exact h.per
  rm:=by rw[hy];exact h.rm
  us:=by have:=h.us;rw[hy];show x.used+(1+((0:Nat):Int))≤U+1;omega
  bn:=by have:=h.bn;rw[hy];show x.born+1≤U+1;omega }
theorem told_any[Inhabited ProtD]{B:Nat}{b:Nat}{x:Hp}{ar:Option Addr}{kr:Nat}{a4:Option Addr}{n4 k4:Nat}{a8:Option Addr}{n8 k8:Nat}{br bn:Nat}{cB cO:Nat→Nat}{pb:Nat→Nat}{pa:Nat→Option Addr}{pk:Nat→Nat}{kn hd:Nat}{vf:Value}{F:List Int}{vk:Value}{K:List Nat}{role:Nat→Nat}(w:World)
  (h:SAt B w b x ar kr (.slice a4 n4 k4) (.slice a8 n8 k8) br cB cO bn pb pa pk kn hd vf F vk K role) (hG:∀g,g∈x.gray→0≤g∧g<x.cells.length) (hr:0<x.regs.length) (l:x.regs.length≤100∧x.cells.length≤8000∧x.gray.length≤8000∧∀q,q<x.cells.length→(x.c q).prs.length≤200) (hB:B≤w.heap.size) :
  Calls Tryz.prog 59 #[.pointer (some ⟨b,0,none⟩)] w fun e w'=>∃bcN bgN,e=.returned (x.v (.slice (some ⟨br,0,none⟩) x.regs.length kr) (.slice (some ⟨bcN,0,none⟩) x.cells.length x.cells.length) (.slice (some ⟨bgN,0,none⟩) x.gray.length x.gray.length))∧Hid (HRow B w'.heap.size w' x br kr bcN x.cells.length bgN x.gray.length pb pa pk)∧Ext w w':=by
 have H:=hide h;obtain⟨c0,c1,c2,c3,c4,c5,c6,c7,c8,c9,c10,c11,c12⟩:=h.sb.bx;rw[h.sb.ha hr] at c3;have AR:=hide (h.sb.ha hr);have hb:=h.sb.nb.1;have l2:=l.2.1;have HG:=hide hG;have HL:=hide l;clear h hG l;have xa:=((Ext.refl w).alloc (.cells #[iv 0,iv 0,iv 0,.slice none 0 0,.slice none 0 0,iv 0,iv 0,iv 0,.slice none 0 0,iv 0,iv 0,iv 0,iv 0] 34)).alloc (.cells #[iv x.room,iv x.used,iv x.born,.slice (some ⟨br,0,none⟩) x.regs.length kr,.slice a4 n4 k4,iv x.phase,iv x.hand,iv x.sub,.slice a8 n8 k8,iv x.per,iv x.start,iv x.rounds,iv x.forced] 34);have B1:=HBox.new (w.alloc (.cells #[iv 0,iv 0,iv 0,.slice none 0 0,.slice none 0 0,iv 0,iv 0,iv 0,.slice none 0 0,iv 0,iv 0,iv 0,iv 0] 34)) x (.slice (some ⟨br,0,none⟩) x.regs.length kr) (.slice a4 n4 k4) (.slice a8 n8 k8) 34;have hs1:(w.alloc (.cells #[iv 0,iv 0,iv 0,.slice none 0 0,.slice none 0 0,iv 0,iv 0,iv 0,.slice none 0 0,iv 0,iv 0,iv 0,iv 0] 34)).heap.size=w.heap.size+1:=by simp
 rw[hs1] at B1;have hs2:((w.alloc (.cells #[iv 0,iv 0,iv 0,.slice none 0 0,.slice none 0 0,iv 0,iv 0,iv 0,.slice none 0 0,iv 0,iv 0,iv 0,iv 0] 34)).alloc (.cells #[iv x.room,iv x.used,iv x.born,.slice (some ⟨br,0,none⟩) x.regs.length kr,.slice a4 n4 k4,iv x.phase,iv x.hand,iv x.sub,.slice a8 n8 k8,iv x.per,iv x.start,iv x.rounds,iv x.forced] 34)).heap.size=w.heap.size+2:=by simp
 go_enter Tryz.func59,Tryz.ntmps59;go_wp2_with fail;refine(places_any b bn hd x.cells.length x.gray _ ((unhide H).ext xa).sb.rg (fun i hi=>(((unhide H).ext xa).sb.nd i hi).1) (unhide HG)).mono ?_;rintro e w1 ⟨rfl,hgs,hgn,q1⟩;rw[hs2] at hgs hgn ⊢;have hz1:w.heap.size+2<w1.heap.size:=hgn.1;have BX1:=hide (B1.ext q1);have X1:=xa.trans q1;have GS:=hide (And.intro hgs hgn);have d8:=(unhide BX1).2.2.2.2.2.2.2.2.1;have d4:=(unhide BX1).2.2.2.2.1;have fz:∀o,w1.frozen? ⟨w.heap.size+1,o,none⟩=false:=fun o=>((bcell q1).2 (w.heap.size+1) o (by rw[hs2];omega)).trans (by simp [go_sem])
 have g8:=fz 8;have g4:=fz 4;have rc:=hide (show ∀o v,((w.alloc (.cells #[iv 0,iv 0,iv 0,.slice none 0 0,.slice none 0 0,iv 0,iv 0,iv 0,.slice none 0 0,iv 0,iv 0,iv 0,iv 0] 34)).alloc (.cells #[iv x.room,iv x.used,iv x.born,.slice (some ⟨br,0,none⟩) x.regs.length kr,.slice a4 n4 k4,iv x.phase,iv x.hand,iv x.sub,.slice a8 n8 k8,iv x.per,iv x.start,iv x.rounds,iv x.forced] 34)).cell? ⟨w.heap.size,o,none⟩=some v→w1.cell? ⟨w.heap.size,o,none⟩=some v from fun o v h=>q1.keep h);have RF:=hide (show ∀o,w1.frozen? ⟨w.heap.size,o,none⟩=false from fun o=>((bcell q1).2 w.heap.size o (by rw[hs2];omega)).trans (by simp [go_sem]));have n13:=((unhide H).ext X1).sb.n13;have nb1:¬b=w.heap.size+1:=by omega
 have nb2:¬w.heap.size+1=b:=by omega
 obtain⟨z,hmk⟩:=mkCells x.cells.length (by omega) (w1.setCell ⟨w.heap.size+1,8,none⟩ (.slice (some ⟨w.heap.size+2,0,none⟩) x.gray.length x.gray.length));have hsz:(w1.setCell ⟨w.heap.size+1,8,none⟩ (.slice (some ⟨w.heap.size+2,0,none⟩) x.gray.length x.gray.length)).heap.size=w1.heap.size:=by simp [World.setCell]
 rw[hsz] at hmk;have hbw:b<w1.heap.size:=by omega
 have htw:w.heap.size+1<w1.heap.size:=by omega
 clear hgs hgn B1 fz q1 c0 c1 c2 c3 c4 c5 c6 c7 c8 c9 c10 c11 c12;go_wp2_with fail
 have ST:=hide (show Tdl w1 (((w1.setCell ⟨w.heap.size+1,8,none⟩ (.slice (some ⟨w.heap.size+2,0,none⟩) x.gray.length x.gray.length)).setCell ⟨w.heap.size+1,4,none⟩ (.slice (some ⟨w1.heap.size,0,none⟩) x.cells.length x.cells.length)).alloc (.cells (madeCells z (x.cells.length*8)) 62)) x (w.heap.size+1) w1.heap.size (.slice (some ⟨br,0,none⟩) x.regs.length kr) (.slice (some ⟨w1.heap.size,0,none⟩) x.cells.length x.cells.length) (.slice (some ⟨w.heap.size+2,0,none⟩) x.gray.length x.gray.length) pa pk 0 from by
  have hs:((w1.setCell ⟨w.heap.size+1,8,none⟩ (.slice (some ⟨w.heap.size+2,0,none⟩) x.gray.length x.gray.length)).setCell ⟨w.heap.size+1,4,none⟩ (.slice (some ⟨w1.heap.size,0,none⟩) x.cells.length x.cells.length)).heap.size=w1.heap.size:=by simp [World.setCell]
  refine⟨(((unhide BX1).set8 _).set4 _).ext ((Ext.refl _).alloc _),fun q _ h=>by omega,fun j hj=>?_,?_,?_,⟨htw,Nat.le_refl _⟩⟩
  ·have:=made_open ((w1.setCell ⟨w.heap.size+1,8,none⟩ (.slice (some ⟨w.heap.size+2,0,none⟩) x.gray.length x.gray.length)).setCell ⟨w.heap.size+1,4,none⟩ (.slice (some ⟨w1.heap.size,0,none⟩) x.cells.length x.cells.length)) z (x.cells.length*8) 62 j hj;rw[hs] at this;exact this
  ·have:=Nf1.made ((w1.setCell ⟨w.heap.size+1,8,none⟩ (.slice (some ⟨w.heap.size+2,0,none⟩) x.gray.length x.gray.length)).setCell ⟨w.heap.size+1,4,none⟩ (.slice (some ⟨w1.heap.size,0,none⟩) x.cells.length x.cells.length)) z (x.cells.length*8) 62;rw[hs] at this;exact this
  ·exact(Only.setCell (S:=fun q=>q=w.heap.size+1) (Only.setCell (S:=fun q=>q=w.heap.size+1) (Only.refl _ w1) (p:=⟨w.heap.size+1,8,none⟩) rfl _) (p:=⟨w.heap.size+1,4,none⟩) rfl _).trans (Only.of_ext ((Ext.refl _).alloc _)))
 clear d8 d4 g8 g4 n13 hmk;go_loopw [29] (fun i wr=>∃(k:Nat),k≤x.cells.length∧i=.int .i64 k∧Hid (Tdl w1 wr x (w.heap.size+1) w1.heap.size (.slice (some ⟨br,0,none⟩) x.regs.length kr) (.slice (some ⟨w1.heap.size,0,none⟩) x.cells.length x.cells.length) (.slice (some ⟨w.heap.size+2,0,none⟩) x.gray.length x.gray.length) pa pk k)) (fun i _=>x.cells.length-(intOf i).toNat)
 case atStart=>exact⟨0,Nat.zero_le _,rfl,unhide ST⟩
 case round=>
  clear ST;obtain⟨k,hk,rfl,hinv⟩:=hrel;have XR:Ext w wr:=(unhide hinv).on.ext X1 (fun q hq e=>by omega);by_cases hlt:k<x.cells.length
  ·have R:=hide ((unhide hinv).step hlt);have c4:=(unhide hinv).bx.2.2.2.2.1;have n13:=((unhide H).ext XR).sb.n13;obtain⟨m0,m1⟩:=((unhide H).ext XR).sb.nd k hlt;obtain⟨p0,p1,p2,p3,p4,p5,p6⟩:=((unhide H).ext XR).rw.s k hlt;have p7:=((unhide H).ext XR).rw.p7 k hlt;obtain⟨⟨u0,o0⟩,f0⟩:Open wr w1.heap.size (k*8):=(unhide hinv).o (k*8) (by omega);obtain⟨⟨u1,o1⟩,f1⟩:=(unhide hinv).o (k*8+1) (by omega);obtain⟨⟨u2,o2⟩,f2⟩:=(unhide hinv).o (k*8+2) (by omega);obtain⟨⟨u3,o3⟩,f3⟩:=(unhide hinv).o (k*8+3) (by omega);obtain⟨⟨u4,o4⟩,f4⟩:=(unhide hinv).o (k*8+4) (by omega);obtain⟨⟨u5,o5⟩,f5⟩:=(unhide hinv).o (k*8+5) (by omega);obtain⟨⟨u6,o6⟩,f6⟩:=(unhide hinv).o (k*8+6) (by omega);obtain⟨⟨u7,o7⟩,f7⟩:=(unhide hinv).o (k*8+7) (by omega);have k0:(0:Int)≤(k:Int):=by omega
   have k1:(k:Int)<(x.cells.length:Int):=by omega
   clear m0;go_wp2_with fail
   go_region
   all_goals
    go_wp2_with fail;go_roundw
    case rel=>exact⟨k+1,by omega,by go_num,unhide R⟩
    case measure=>simp [intOf];omega
  ·have hk2:k=x.cells.length:=by omega
   subst hk2;have WB:∀q,q<w1.heap.size→q≠w.heap.size+1→wr.heap[q]?=w1.heap[q]?:=fun q hq hne=>(unhide hinv).on.block q hq hne
   have SR:=hide ((unhide H).ext XR)
   have GR:=hide (show SlI wr (.slice (some ⟨w.heap.size+2,0,none⟩) x.gray.length x.gray.length) x.gray∧Nf1 (w.heap.size+2) wr from by
    have e:=WB (w.heap.size+2) (by omega) (by omega);refine⟨SlOf.mono2 (unhide GS).1 fun b' o n c z o' y hy=>?_,nf1_block (unhide GS).2 e (unhide hinv).on.size⟩;simp only [Value.slice.injEq,Option.some.injEq,Addr.mk.injEq] at z;obtain⟨⟨rfl,_,_⟩,_,_⟩:=z;exact(World.cell?_of_block (a:=⟨w.heap.size+2,o',none⟩) e).trans hy)
   have RW:=hide (show ∀W,Only (fun q=>q=w.heap.size) wr W→HRow B W.heap.size W x br kr w1.heap.size x.cells.length (w.heap.size+2) x.gray.length pb pa pk from fun W o=>by
    have rw:=(unhide SR).rw;have hB2:=hB;have lr:=(unhide H).rw.nr hr;have lp:=fun q hq hl=>(unhide H).rw.pl q hq hl
    have hsz:=o.size;have hws:=(unhide hinv).nf.1;have rw2:=rw.only o (fun hl e=>by have:=lr.1.1;omega) (fun q hq e=>by have:=((unhide H).rw.nc q hq).1.1;omega) (fun q hq hl e=>by have:=(lp q hq hl).2.1.1;omega);refine⟨rw2.slW kr (fun _=>rfl) (by have:=(unhide HL).1;omega),fun q hq=>?_,fun q hq=>?_,?_,fun q hq=>?_,fun q hq hl=>?_,(rw2.nr hr).1,?_,?_,⟨by have:=lr.1.1;omega,by have:=lr.1.1;omega,by omega⟩,fun q q' hq hq' hne h1 h2=>rw2.dp q q' hq hq' hne (rw2.pw hq h1) (rw2.pw hq' h2),⟨⟨lr.2,by have:=lr.1.1;have:=XR.size;omega⟩,⟨by omega,by omega⟩,⟨by omega,by omega⟩⟩,unhide HL,rw2.kp⟩
    ·exact((unhide hinv).s q hq hq).1.of fun j _=>World.cell?_of_block (a:=⟨w1.heap.size,_,none⟩) (o.block w1.heap.size hws (by omega))
    ·refine⟨_,_,rfl,by have:=(unhide HL).2.2.2 q hq;omega,fun k hk=>⟨pb q,0,(rw2.pl q hq (rw2.pw hq (by omega))).1,?_⟩⟩;rw[Nat.zero_add,Cl.p_eq _ _ hk];exact rw2.p q hq k hk
    ·refine SlOf.mono2 (unhide GR).1 fun b' o2 n c z o' y hy=>?_
     simp only [Value.slice.injEq,Option.some.injEq,Addr.mk.injEq] at z;obtain⟨⟨rfl,_,_⟩,_,_⟩:=z;exact o.keep (by omega) hy
    ·exact o.keep (by omega) ((unhide hinv).s q hq hq).2
    ·obtain⟨a1,a2,a3,a4⟩:=rw2.pl q hq (rw2.pw hq hl);have:=(lp q hq (rw2.pw hq hl)).2.1.1;exact⟨a1,a2.n1,⟨a3.1,by omega,by omega⟩,a4,by have:=XR.size;omega⟩
    ·exact nf1_block (unhide hinv).nf (o.block w1.heap.size hws (by omega)) hsz
    ·exact nf1_block (unhide GR).2 (o.block (w.heap.size+2) (unhide GR).2.1 (by omega)) hsz)
   have rcell:∀o v,((w.alloc (.cells #[iv 0,iv 0,iv 0,.slice none 0 0,.slice none 0 0,iv 0,iv 0,iv 0,.slice none 0 0,iv 0,iv 0,iv 0,iv 0] 34)).alloc (.cells #[iv x.room,iv x.used,iv x.born,.slice (some ⟨br,0,none⟩) x.regs.length kr,.slice a4 n4 k4,iv x.phase,iv x.hand,iv x.sub,.slice a8 n8 k8,iv x.per,iv x.start,iv x.rounds,iv x.forced] 34)).cell? ⟨w.heap.size,o,none⟩=some v→wr.cell? ⟨w.heap.size,o,none⟩=some v:=fun o v h=>(World.cell?_of_block (a:=⟨w.heap.size,o,none⟩) (WB w.heap.size (by omega) (by omega))).trans (unhide rc o v h)
   have rfz:∀o,wr.frozen? ⟨w.heap.size,o,none⟩=false:=fun o=>(World.frozen?_of_block (a:=⟨w.heap.size,o,none⟩) (WB w.heap.size (by omega) (by omega))).trans (unhide RF o)
   have r0:=rcell 0 (iv 0) (by simp [go_sem]);have r1:=rcell 1 (iv 0) (by simp [go_sem]);have r2:=rcell 2 (iv 0) (by simp [go_sem]);have r3:=rcell 3 (.slice none 0 0) (by simp [go_sem]);have r4:=rcell 4 (.slice none 0 0) (by simp [go_sem]);have r5:=rcell 5 (iv 0) (by simp [go_sem]);have r6:=rcell 6 (iv 0) (by simp [go_sem]);have r7:=rcell 7 (iv 0) (by simp [go_sem]);have r8:=rcell 8 (.slice none 0 0) (by simp [go_sem]);have r9:=rcell 9 (iv 0) (by simp [go_sem]);have r10:=rcell 10 (iv 0) (by simp [go_sem]);have r11:=rcell 11 (iv 0) (by simp [go_sem]);have r12:=rcell 12 (iv 0) (by simp [go_sem]);have f0:=rfz 0;have f1:=rfz 1;have f2:=rfz 2;have f3:=rfz 3;have f4:=rfz 4;have f5:=rfz 5;have f6:=rfz 6;have f7:=rfz 7;have f8:=rfz 8;have f9:=rfz 9;have f10:=rfz 10;have f11:=rfz 11;have f12:=rfz 12;obtain⟨b0,b1,b2,b3,b4,b5,b6,b7,b8,b9,b10,b11,b12⟩:=(unhide hinv).bx;have hb0:w.heap.size+1<wr.heap.size:=cell_lt b0;have hr0:w.heap.size<wr.heap.size:=cell_lt r0;clear hinv rcell rfz WB;go_wp2_with fail;refine bodyPost_ret (v:=x.v (.slice (some ⟨br,0,none⟩) x.regs.length kr) (.slice (some ⟨w1.heap.size,0,none⟩) x.cells.length x.cells.length) (.slice (some ⟨w.heap.size+2,0,none⟩) x.gray.length x.gray.length)) (by simp [results,Tryz.results59,go_sem,r0,r1,r2,r3,r4,r5,r6,r7,r8,r9,r10,r11,r12]) rfl ⟨_,_,rfl,?_⟩;refine(fun(F:Only (fun q=>q=w.heap.size) wr _)=>⟨unhide RW _ F,F.ext XR (fun q hq e=>by omega)⟩) ?_
   repeat (first | refine Only.setCell ?_ (by simp) _ | exact Only.refl _ _)
end Go.Proofs.YtddkhnclmeikfaaGreat
