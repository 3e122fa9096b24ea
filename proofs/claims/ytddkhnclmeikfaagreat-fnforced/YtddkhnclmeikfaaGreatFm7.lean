import Derived.Test.YtddkhnclmeikfaaGreatFm6
namespace Go.Proofs.YtddkhnclmeikfaaGreat
open Go.RowKit
def Vn(x:Hp)(j:Nat):Prop:=∀p,p<j→((x.c (x.at 0)).p p).val.k≠2
theorem Vn.set{x y:Hp}{j:Nat}{u:Wd}(h:Vn x j)(r:∀k,y.r k=x.r k)(q:∀i p,(y.c i).p p=if i=x.at 0∧p=j then ⟨((x.c (x.at 0)).p j).key,u⟩ else (x.c i).p p)(hu:u.k≠2):Vn y (j+1):=fun p hp=>by
 have:y.at 0=x.at 0:=by unfold Hp.at;rw[r]
 rw[this,q];by_cases e:p=j
 ·rw[if_pos ⟨rfl,e⟩];exact hu
 ·rw[if_neg (fun z=>e z.2)];exact h p (by omega)
theorem Vn.nil{x:Hp}{j a:Nat}(h:Vn x j)(s:Snd x)(ha:a<16)(a0:0<a):Vn (regTo x a Wd0) j:=fun p hp=>by
 have:(regTo x a Wd0).at 0=x.at 0:=by unfold Hp.at;rw[r_regTo x a _ (by rw[s.n16];exact ha),if_neg (by omega)]
 rw[this];exact h p hp
theorem sum_point{x:Hp}(i:Nat)(k:Nat):sumTo x (fun q=>q == i) k≤(if i<k then 1+(x.c i).prs.length else 0):=by
 induction k with
 | zero=>simp [sumTo]
 | succ k ih=>
  simp only [sumTo];by_cases e:k=i
  ·subst e;simp only [BEq.rfl,if_true];rw[if_neg (by omega)] at ih;rw[if_pos (by omega)];omega
  ·have:(k == i)=false:=by simpa using e
   simp only [this,Bool.false_eq_true,if_false]
   split at ih <;> split <;> omega
theorem lb_five{x:Hp}(s:Snd x)(ns:NoSpk x)(f:F0 x)(v:Vn x 4)(r1:(x.r 1).k≠2)(r2:(x.r 2).k≠2):LB x 5:=by
 have g:=tgt_at s (f:=0) (by omega) f.rf.1
 have cp:Cp x (fun i=>i=x.at 0):=by
  refine⟨fun i h=>by rw[h];exact g.2,fun k h e=>?_,fun i p h hp e=>?_,fun i p h hp e=>?_⟩
  ·rw[Hp.r_eq x k h] at e ⊢
   have k0:k=0:=by
    have h16:k<16:=by rw[←s.n16];exact h
    rcases Nat.lt_or_ge k 3 with l | l
    ·rcases (show k=0∨k=1∨k=2 by omega) with q | q | q
     ·exact q
     ·rw[q] at e;exact(r1 e).elim
     ·rw[q] at e;exact(r2 e).elim
    ·exact(f.hi k l h16 e).elim
   rw[k0];exact g.1
  ·subst h;rw[f.rf.2] at hp;exact(f.ky p hp e).elim
  ·subst h;rw[f.rf.2] at hp;exact(v p hp e).elim
 refine⟨fun i=>i == x.at 0,fun i=>⟨fun h=>?_,fun h=>by have:=cp.in ns h;simpa using this⟩,?_⟩
 ·have:i=x.at 0:=by simpa using h
  rw[this,←g.1];have l:0<x.regs.length:=by rw[s.n16];omega
  rw[←Hp.r_eq x 0 l];exact Reached.reg 0 l (by rw[Hp.r_eq x 0 l];exact f.rf.1)
 ·refine Nat.le_trans (sum_point (x.at 0) _) ?_;rw[f.rf.2];split <;> omega
def clearA:List Ak:=[ak 3 2 0 0,ak 8 0 2 0,ak 3 2 0 0,ak 8 0 2 1,ak 3 2 0 0,ak 8 0 2 2,ak 3 2 0 0,ak 8 0 2 3,ak 3 1 0 0]
def hangA(n k:Nat):List Ak:=[ak 1 1 0 n,ak 6 2 0 k,ak 8 1 2 0,ak 8 0 1 k,ak 3 2 0 0]
section
variable {R : Nat} {x : Hp} {L mad : Nat}
theorem Bz.two{A:List Ak}{Q:Hp→List Int→Prop}(h:Bz R x L mad)(j:Nat)(hj:j<4)(v:Vn x j)(k:∀y,Bz R y L mad→Vn y (j+1)→(y.r 2).k≠2→Wp y A (fun z M=>Q z (0::0::M))):Wp x (ak 3 2 0 0::ak 8 0 2 j::A) Q:=
 h.wNil 2 (by omega) (by omega) fun y hy b=>by
  have n2:(y.r 2).k≠2:=by rw[hy,r_regTo x 2 _ (by rw[h.s.n16];omega),if_pos rfl];simp [Wd0]
  have v2:Vn y j:=by rw[hy];exact v.nil h.s (by omega) (by omega)
  exact b.wSet 0 2 j (by omega) (by omega) b.f0.rf hj (by omega) fun z _ r q b2=>k z b2 (v2.set r q n2) (by rw[r];exact n2)
theorem Bz.clear(h:Bz R x L mad):Wp x clearA (fun z M=>Bz R z 5 mad∧M=List.replicate 9 0):=
 h.two 0 (by omega) (fun p hp=>by omega) fun x1 h1 v1 _=>h1.two 1 (by omega) v1 fun x2 h2 v2 _=>h2.two 2 (by omega) v2 fun x3 h3 v3 _=>h3.two 3 (by omega) v3 fun x4 h4 v4 n4=>
  h4.wNil 1 (by omega) (by omega) fun y hy b=>by
   have e:∀q,y.r q=if q=1 then Wd0 else x4.r q:=fun q=>by rw[hy];exact r_regTo x4 1 _ (by rw[h4.s.n16];omega) q
   have v:Vn y 4:=by rw[hy];exact v4.nil h4.s (by omega) (by omega)
   exact⟨⟨⟨b.s,b.rm,b.per,b.st,b.fo,b.ns,b.bn,lb_five b.s b.ns b.f0 v (by rw[e,if_pos rfl];simp [Wd0]) (by rw[e,if_neg (by omega)];exact n4),b.ps⟩,b.f0⟩,rfl⟩
theorem Bz.hang(h:Bz R x L mad)(hR:3000≤R∧R≤4000)(n k:Nat)(hn:n<90)(n0:0<n)(hk:k<4)(hL:L+(1+n)≤R / 4)(hm:mad≤500000):Wp x (hangA n k) (fun z M=>Bz R z (L+(1+n)) (mad+(1+n))∧M=List.replicate 5 0):=
 h.wNew hR n hn hL hm fun x1 r1 h1=>h1.wVal k hk fun x2 ⟨u,e2⟩ h2=>by
  have r2:Rf x2 1 n:=by rw[e2];exact r1.reg h1.s 2 u (by omega) (by omega)
  exact h2.wSet 1 2 0 (by omega) (by omega) r2 n0 (by omega) fun x3 _ _ _ h3=>h3.wSet 0 1 k (by omega) (by omega) h3.f0.rf hk (by omega) fun x4 _ _ _ h4=>h4.wNil 2 (by omega) (by omega) fun y _ b=>⟨b,rfl⟩
end
def mvA:Option (Nat×Option Nat)→List Ak
 | none=>clearA
 | some (n,none)=>[ak 1 1 0 n]
 | some (n,some k)=>hangA n k
def mvL(l:Nat):Option (Nat×Option Nat)→Nat
 | none=>0
 | some (n,_)=>l+(1+n)
def mvU:Option (Nat×Option Nat)→Nat
 | none=>0
 | some (n,_)=>1+n
def mvOk(R l:Nat):Option (Nat×Option Nat)→Prop
 | none=>True
 | some (n,o)=>n<90∧l+(1+n)+20≤R / 4∧∀k,o=some k→0<n∧k<4
def bA:List (Option (Nat×Option Nat))→List Ak
 | []=>[]
 | m::ms=>bA ms++mvA m
def bL:List (Option (Nat×Option Nat))→Nat
 | []=>0
 | m::ms=>mvL (bL ms) m
def bU:List (Option (Nat×Option Nat))→Nat
 | []=>5
 | m::ms=>bU ms+mvU m
def bOk(R:Nat):List (Option (Nat×Option Nat))→Prop
 | []=>True
 | m::ms=>bOk R ms∧mvOk R (bL ms) m
def headA0(st:Nat):List Ak:=[ak 23 0 64 st,ak 1 0 0 4]
theorem bU_le{R:Nat}:∀ms,bOk R ms→bU ms≤5+90*ms.length
 | [],_=>by simp [bU]
 | none::ms,h=>by have:=bU_le ms h.1;simp only [bU,mvU,List.length_cons] at this ⊢;omega
 | some (n,o)::ms,h=>by have:=bU_le ms h.1;have:=h.2.1;simp only [bU,mvU,List.length_cons] at *;omega
theorem busy_head(R st:Nat)(hR:3000≤R∧R≤4000)(hs:4*st≤R):Wp (frH R) (headA0 st) (fun z M=>Bz R z 5 5∧M=[0,0]):=
 Wp.act (ok_of (by omega) (by omega) (by decide) (by decide) (by show(st:Int)≤4000;omega)) fun y cd nm d s=>by
  obtain⟨rfl,rfl,rfl⟩:=d;obtain⟨x,hx⟩:∃x,x=paceTo (frH R) ((64:Nat):Int) st:=⟨_,rfl⟩;have hc:∀q,x.c q=Cl0:=fun q=>by rw[hx];simp [Hp.c,paceTo,frH]
  have hr:∀q,x.r q=Wd0:=fun q=>by
   rw[hx];show(List.replicate 16 (⟨0,0,0⟩:Wd)).getD q Wd0=Wd0;simp only [List.getD_eq_getElem?_getD,List.getElem?_replicate]
   split <;> rfl
  have ns:NoSpk x:=fun i sp=>by rw[hc] at sp;unfold Speaks Cl0 at sp;rcases sp with e | e <;> simp at e
  have hl:x.cells.length=0:=by rw[hx];rfl
  rw[←hx] at s ⊢
  have b0:By R x 0 0:=by
   refine⟨s,by rw[hx];rfl,by rw[hx];rfl,by rw[hx];show 4*(st:Int)≤R;omega,by rw[hx];rfl,ns,by rw[hx];show(0:Int)≤_;omega,?_,.inl ⟨by rw[hx];rfl,by rw[hx];show(0:Int)≤_;omega,.inr (by rw[hx];show((0:Nat):Int)≤0;omega)⟩⟩;have cp:Cp x (fun _=>False):=⟨fun _ h=>h.elim,fun k h e=>by rw[Hp.r_eq x k h,hr] at e;simp [Wd0] at e,fun _ _ h=>h.elim,fun _ _ h=>h.elim⟩;exact⟨fun _=>false,fun i=>⟨fun h=>by simp at h,fun h=>(cp.in ns h).elim⟩,by rw[hl];simp [sumTo]⟩
  refine⟨rfl,Wp.act (ok_of (by omega) (by omega) (by decide) (by decide) (by decide)) fun y cd nm d s2=>?_⟩;have us:x.used=0:=by rw[hx];rfl
  have rm:x.room=R:=b0.rm;have bn:x.born=0:=by rw[hx];rfl
  obtain⟨h0,⟨e,_⟩ | ⟨_,z,hz,hd⟩⟩:MakeIs x 0 0 4 y cd nm:=d
  ·omega
  have ft:fitsB x (1+4)=true:=by unfold fitsB;rw[rm,us];simp only [decide_eq_true_eq];omega
  rcases hz with⟨_,rfl⟩ | ⟨e,_⟩
  rotate_left
  ·rw[ft] at e;cases e
  rcases hd with⟨e,_⟩ | ⟨_,e,p⟩
  ·rw[ft] at e;cases e
  subst e;obtain⟨s1,w2,w3,w4⟩:=s.make ((0:Nat):Int) 4 (by omega) (by omega) (by omega) (by rw[rm,us];omega);have t1:Snd (regTo (makeH z ((0:Nat):Int) 4) 0 ⟨2,0,fstFree z⟩):=s1.regTo 0 ⟨2,0,fstFree z⟩ ⟨.inr (.inr ⟨rfl,rfl,by show(0:Int)≤(fstFree z:Nat);omega,by show((fstFree z:Nat):Int)<_;omega⟩),fun _=>.inr ⟨w2,w4⟩⟩;have mk:=mk_is s 0 0 4 (by omega);obtain⟨x1,hx1⟩:∃x1,x1=regTo (makeH z ((0:Nat):Int) 4) 0 ⟨2,0,fstFree z⟩:=⟨_,rfl⟩;have rr:∀q,x1.r q=if q=0 then ⟨2,0,fstFree z⟩ else z.r q:=fun q=>by rw[hx1];exact r_regTo (makeH z ((0:Nat):Int) 4) 0 _ (by show 0<z.regs.length;rw[s.n16];omega) q
  rw[←hx1] at t1 mk p;have e2:x1.at 0=fstFree z:=by unfold Hp.at;rw[rr,if_pos rfl];simp
  have f1:F0 x1:=by
   refine⟨⟨by rw[rr,if_pos rfl],by rw[e2,mk.lf];simp⟩,fun p hp=>?_,fun q a b=>by rw[rr,if_neg (by omega),hr];simp [Wd0]⟩;rw[e2];unfold Cl.p;rw[mk.lf,List.getD_eq_getElem?_getD,List.getElem?_replicate,if_pos hp];show(0:Int)≠2;decide
  have q:=pace_bz b0 mk t1 f1 (by omega) (by omega) p;exact⟨rfl,q.1,by rw[h0]⟩
theorem busy_all(R st:Nat)(hR:3000≤R∧R≤4000)(hs:4*st≤R):∀ms,bOk R ms→ms.length≤1000→Wp (frH R) (headA0 st++bA ms) (fun z M=>Bz R z (bL ms+5) (bU ms)∧∀a,a∈M→a=0)
 | [],_,_=>by
  rw[show headA0 st++bA []=headA0 st by simp [bA]];exact(busy_head R st hR hs).mono fun z M ⟨a,b⟩=>⟨a,fun q h=>by rw[b] at h;simpa using h⟩
 | m::ms,h,hl=>by
  have ih:=busy_all R st hR hs ms h.1 (by simp at hl;omega);have ul:=bU_le ms h.1;simp only [List.length_cons] at hl;rw[show headA0 st++bA (m::ms)=(headA0 st++bA ms)++mvA m by simp [bA]];refine Wp.app (ih.mono fun z M ⟨b,hM⟩=>?_)
  have fin:∀{n L mad:Nat} {A:List Ak},Wp z A (fun z' B=>Bz R z' L mad∧B=List.replicate n 0)→Wp z A (fun z' B=>Bz R z' L mad∧∀a,a∈M++B→a=0):=fun w=>w.mono fun z' B ⟨c,e⟩=>⟨c,fun a ha=>by
   rcases List.mem_append.1 ha with q | q
   ·exact hM a q
   ·rw[e] at q;exact List.eq_of_mem_replicate q⟩
  match m,h with
  | none,_=>exact fin b.clear
  | some (n,none),h=>
   have o:=h.2;have:=b.wNew (A:=[]) (Q:=fun z M=>Bz R z (bL ms+5+(1+n)) (bU ms+(1+n))∧M=List.replicate 1 0) hR n o.1 (by have:=o.2.1;omega) (by omega) (fun y _ b=>⟨b,rfl⟩);have:=fin this;rw[show bL (some (n,none)::ms)+5=bL ms+5+(1+n) by simp only [bL,mvL];omega];exact this
  | some (n,some k),h=>
   have o:=h.2;have:=fin (b.hang hR n k o.1 (o.2.2 k rfl).1 (o.2.2 k rfl).2 (by have:=o.2.1;omega) (by omega));rw[show bL (some (n,some k)::ms)+5=bL ms+5+(1+n) by simp only [bL,mvL];omega];exact this
end Go.Proofs.YtddkhnclmeikfaaGreat
