import Derived.Test.YtddkhnclmeikfaaGreatQe
import Derived.Test.YtddkhnclmeikfaaGreatKe0
import Derived.Test.YtddkhnclmeikfaaGreatJr0
namespace Go.Proofs.YtddkhnclmeikfaaGreat
open Go.RowKit
theorem unitH_room(x:Hp):(unitH x).room=x.room:=by
 unfold unitH
 repeat (first | (split) | exact uroom1 x | exact uroom2 x | exact uroom3 x | exact uroom4 x | exact uroom5 x | exact uroom6 x | rfl)
theorem itU_room:∀(k:Nat) (x:Hp),(itU k x).room=x.room
 | 0,_=>rfl
 | k+1,x=>by
  first
   | exact(itU_room k (unitH x)).trans (unitH_room x)
   | exact(unitH_room (itU k x)).trans (itU_room k x)
theorem endH_room{x y:Hp}(h:endH x y):y.room=x.room:=by
 obtain⟨k,_,e⟩:=h;rw[e];exact itU_room k x
theorem RdIs.room{x y:Hp}(h:RdIs x y):y.room=x.room:=by
 obtain⟨z,a,b⟩:=h;exact(endH_room b).trans (show z.room=x.room from endH_room a)
theorem RoomIs.room{x y:Hp}{u:Nat}(h:RoomIs x u y):y.room=x.room:=by
 rcases h with h | h
 ·rw[h.2]
 ·exact h.2.room
theorem stepH_room(x:Hp)(n:Nat):(stepH x n).room=x.room:=by unfold stepH;split <;> rfl
theorem PaceIs.room{x y:Hp}{u:Nat}(h:PaceIs x u y):y.room=x.room:=by
 rcases h with h | ⟨_,k,_,h⟩
 ·rw[h.2]
 ·rw[h];exact(itU_room k _).trans (stepH_room x _)
theorem cutTo_room(x:Hp)(H:Nat→Bool):∀k,(cutTo x H k).room=x.room
 | 0=>rfl
 | k+1=>by
  unfold cutTo
  split
  ·exact cutTo_room x H k
  ·exact cutTo_room x H k
theorem dueTo_room(x z:Hp)(H:Nat→Bool):∀k,(dueTo x z H k).room=z.room
 | 0=>rfl
 | k+1=>by
  unfold dueTo
  split
  ·exact dueTo_room x z H k
  ·exact dueTo_room x z H k
theorem HalfIs.room{x:Hp}{f c:Nat}{y:Hp}{cd nm:Int}{R:Nat→Prop}(h:HalfIs x f c y cd nm R)(hR:∀i,R i→y.room=x.room):y.room=x.room:=by
 rcases h with h | h | h
 ·rw[h.2.1]
 ·rw[h.2.2.1]
 ·exact hR _ h.2.2.1
theorem CellIs.room{x:Hp}{f:Nat}{y:Hp}{cd nm:Int}{R:Nat→Prop}(h:CellIs x f y cd nm R)(hR:∀i,R i→y.room=x.room):y.room=x.room:=by
 rcases h with h | h
 ·rw[h.2.1]
 ·exact hR _ h.2
theorem DoR.room{x:Hp}{a b c:Nat}{n:Int}{y:Hp}{cd nm:Int}{k:Nat}(h:DoR x a b c n y cd nm k):y.room=x.room:=by
 unfold DoR at h
 split at h
 ·rcases h.2 with h | ⟨_,z,hz,h | h⟩
  ·rw[h.2.1]
  ·rw[h.2.1];exact hz.room
  ·exact(PaceIs.room h.2.2).trans (show z.room=x.room from hz.room)
 ·rw[h.1];rfl
 ·rw[h.1];rfl
 ·rw[h.1];rfl
 ·exact h.room (fun i r=>by rw[r];rfl)
 ·exact h.room (fun i r=>by rw[r];rfl)
 ·exact h.room (fun i r=>by rw[r,shadeW_room];rfl)
 ·exact h.room (fun i r=>by rw[r,shadeW_room];rfl)
 ·refine h.room (fun i r=>?_);rcases r.2 with h | ⟨_,z,hz,h | h⟩
  ·rw[h.2.1]
  ·rw[h.2.1];exact hz.room
  ·exact(PaceIs.room h.2.2).trans (show z.room=x.room from hz.room)
 ·exact h.room (fun i r=>by rw[r.1];rfl)
 ·exact h.room (fun i r=>by rw[r.1];rfl)
 ·refine h.room (fun i r=>?_);rw[r.1]
  split
  ·rw[(shade_same _ _).1];rfl
  ·rfl
 ·rw[h.1]
 ·rw[h.1]
 ·rw[h.1]
 ·exact h.room (fun i r=>by rw[r.1])
 ·exact h.room (fun i r=>by rw[r.1])
 ·obtain⟨_,H,_,e,_⟩:=h;rw[e];exact(dueTo_room _ _ _ _).trans (cutTo_room _ _ _)
 ·rcases h.2 with h | ⟨i,h⟩
  ·rw[h.2.1];rfl
  ·rw[h.2.1];rfl
 ·rw[h.1]
 ·rw[h.1]
 ·obtain⟨_,_,k,_,e⟩:=h;rw[e];exact(itU_room k _).trans (stepH_room x _)
 ·rw[h.1];rfl
 ·exact h.2.2.room
 ·exact h.elim
theorem shadeW_born(x:Hp)(y:Wd):(shadeW x y).born=x.born:=by
 unfold shadeW
 split
 ·exact(shade_same x _).2.2.1
 ·rfl
theorem fold_born:∀(ys:List Wd) (z:Hp),(ys.foldl shadeW z).born=z.born
 | [],_=>rfl
 | y::ys,z=>(fold_born ys (shadeW z y)).trans (shadeW_born z y)
theorem uborn1(x:Hp):(unit1 x).born=x.born:=by
 unfold unit1
 split
 ·rfl
 ·by_cases e:spkB (x.c x.hand.toNat)=true
  ·simp only [if_pos e];exact(shade_same x _).2.2.1
  ·simp only [if_neg e]
theorem uborn2(x:Hp):(unit2 x).born=x.born:=by
 unfold unit2
 split
 ·split
  ·exact(shadeW_born _ _).trans (shadeW_born _ _)
  ·rfl
 ·split
  ·exact fold_born x.regs x
  ·exact fold_born x.regs x
theorem uborn3(x:Hp):(unit3 x).born=x.born:=by
 unfold unit3
 split
 ·rfl
 ·split <;> rfl
theorem uborn4(x:Hp):(unit4 x).born=x.born:=by
 unfold unit4
 split <;> rfl
theorem uborn5(x:Hp):(unit5 x).born=x.born:=by
 unfold unit5
 split
 ·rfl
 ·split <;> rfl
theorem uborn6(x:Hp):(unit6 x).born=x.born:=by
 unfold unit6 dropH
 split
 ·rfl
 ·split <;> rfl
theorem unitH_born(x:Hp):(unitH x).born=x.born:=by
 unfold unitH
 repeat (first | (split) | exact uborn1 x | exact uborn2 x | exact uborn3 x | exact uborn4 x | exact uborn5 x | exact uborn6 x | rfl)
theorem itU_born:∀(k:Nat) (x:Hp),(itU k x).born=x.born
 | 0,_=>rfl
 | k+1,x=>by
  first
   | exact(itU_born k (unitH x)).trans (unitH_born x)
   | exact(unitH_born (itU k x)).trans (itU_born k x)
theorem endH_born{x y:Hp}(h:endH x y):y.born=x.born:=by
 obtain⟨k,_,e⟩:=h;rw[e];exact itU_born k x
theorem RdIs.bornE{x y:Hp}(h:RdIs x y):y.born=x.born:=by
 obtain⟨z,a,b⟩:=h;exact(endH_born b).trans (show z.born=x.born from endH_born a)
theorem RoomIs.bornE{x y:Hp}{u:Nat}(h:RoomIs x u y):y.born=x.born:=by
 rcases h with h | h
 ·rw[h.2]
 ·exact h.2.bornE
theorem MakeIs.snd{x:Hp}{a b c:Nat}{y:Hp}{cd nm:Int}(s:Snd x)(hb:b≤255)(hc:c≤200)(h:MakeIs x a b c y cd nm):Snd y:=by
 rcases h.2 with h | ⟨nb,z,hz,h | h⟩
 ·rw[h.2.1];exact s
 ·rw[h.2.1];exact hz.snd s
 ·have sz:=hz.snd s;have eb:=hz.bornE;have b1:=s.r1.born;have hu:z.used+(1+c)≤z.room:=by have e:=h.1;unfold fitsB at e;have:=of_decide_eq_true e;omega
  obtain⟨s1,s2,s3,s4⟩:=sz.make b c (by omega) hc (by omega) hu;refine h.2.2.snd (s1.regTo a ⟨2,0,fstFree z⟩ ⟨.inr (.inr ⟨rfl,rfl,by show(0:Int)≤(fstFree z:Nat);omega,by show((fstFree z:Nat):Int)<_;omega⟩),fun _=>.inr ⟨s2,s4⟩⟩)
theorem scan_rest{x z:Hp}(r:RestH z x)(hl:z.cells.length=x.cells.length):scanI z=scanI x:=by
 obtain⟨_,_,_,r4,r5,r6,_⟩:=r;unfold scanI;rw[r4,r5,r6,hl]
theorem Snd.stTo{x:Hp}(s:Snd x)(H:Nat→Bool):∀k,k≤x.cells.length→Snd (stTo x H k)
 | 0,_=>s
 | k+1,hk=>by
  have sz:=Snd.stTo s H k (by omega);have zl:=stTo_len x H k;have zc:(Go.Proofs.YtddkhnclmeikfaaGreat.stTo x H k).c k=x.c k:=by rw[stTo_c x H k (by omega) k,if_neg (by omega)]
  have sc:=scan_rest (stTo_rest x H k) zl;show Snd (stNext x H k (Go.Proofs.YtddkhnclmeikfaaGreat.stTo x H k));obtain⟨z,hz⟩:∃z,z=Go.Proofs.YtddkhnclmeikfaaGreat.stTo x H k:=⟨_,rfl⟩;rw[←hz] at sz zl zc sc ⊢;have hi:k<z.cells.length:=by omega
  unfold stNext
  split
  ·have e:({ z with cells:=z.cells.set k (letC x H (x.c k)),used:=z.used-goes x H (x.c k) (x.c k).prs,sub:=letSub x H k z.sub }:Hp)=fltH z k (fun p=>!goB x H (x.c k) p) (goes x H (x.c k) (x.c k).prs) (letSub x H k z.sub):=by
    unfold fltH fltC letC stay;rw[zc]
   rw[e];refine sz.thin (Thin.flt sz k hi _ _ _ ?_ ?_)
   ·rw[zc];exact stay_goes x H (x.c k) (x.c k).prs
   ·unfold letSub;rw[sc,zc]
    split
    ·rename_i es;have a:=sz.scan k (by rw[sc];exact es);have b:=sz.r1.sub;rw[zc] at a;have c:=stay_goes x H (x.c k) ((x.c k).prs.take z.sub.toNat);rw[List.length_take] at c;unfold stay at c;omega
    ·rfl
  ·split
   ·rename_i _ e1;have s1:=speaks_used sz.r2 k hi (.inl (by rw[zc];exact e1));have e:({ z with cells:=z.cells.set k (dueC (x.c k)) }:Hp)=setcH z k (dueC (z.c k)):=by rw[zc];rfl
    rw[e];exact sz.thin (Thin.self sz k _ hi s1 ⟨rfl,rfl,rfl,rfl,rfl⟩ rfl (.inl rfl) (.inr ⟨by show(0:Int)≤2;omega,by show(2:Int)≤3;omega⟩) (fun _=>.inl (by rw[zc];exact e1)))
   ·exact sz
theorem Snd.settle{x:Hp}(s:Snd x)(H:Nat→Bool):Snd (settleH x H):=by
 rw[←stTo_all];exact s.stTo H _ (Nat.le_refl _)
theorem DoR.sndB{x:Hp}{a b c:Nat}{n:Int}{y:Hp}{cd nm:Int}{k:Nat}(s:Snd x)(ha:a<16)(hb:k≠1→k≠23→b<16)(h1:k=1→b≤255∧c≤200)(h23:k=23→b≤64∧c≤4000)(h11:k=11→c≤3)(h12:k=12→c≤1)(hk:k≠9)(h:DoR x a b c n y cd nm k):Snd y:=by
 by_cases e1:k=1
 ·subst e1;exact MakeIs.snd s (h1 rfl).1 (h1 rfl).2 h
 ·by_cases e2:k=18
  ·subst e2;obtain⟨_,H,_,e,_⟩:=h;rw[e];exact s.settle H
  ·exact h.sndA s ha hb h23 h11 h12 ⟨e1,hk,e2⟩
theorem DoR.snd{x:Hp}{a b c:Nat}{n:Int}{y:Hp}{cd nm:Int}{k:Nat}(s:Snd x)(ha:a<16)(hb:k≠1→k≠23→b<16)(h1:k=1→b≤255∧c≤200)(h23:k=23→b≤64∧c≤4000)(h11:k=11→c≤3)(h12:k=12→c≤1)(h:DoR x a b c n y cd nm k):Snd y:=by
 by_cases e9:k=9
 ·subst e9;rcases h with h | h
  ·rw[h.2.1];exact s
  ·exact GrowIs.snd s ha h.1 rfl h.2
 ·exact h.sndB s ha hb h1 h23 h11 h12 e9
theorem DoIs.snd{x:Hp}{op a b c n:Int}{y:Hp}{cd nm:Int}(s:Snd x)(h:DoIs x op a b c n y cd nm):Snd y:=by
 rcases h with⟨_,h2,_⟩ | ⟨ok,h2⟩
 ·rw[h2];exact s
 ·obtain⟨h1,ha,hb,hc⟩:=act_bounds ok;have hA:actA op≤15:=by unfold actA;split <;> omega
  have hB:op≠1→op≠23→actB op≤15:=fun e1 e2=>by unfold actB;rw[if_neg e1,if_neg e2];split <;> omega
  refine DoR.snd s (by omega) (fun e1 e2=>by have:=hB (by omega) (by omega);omega) (fun e=>?_) (fun e=>?_) (fun e=>?_) (fun e=>?_) h2
  ·have e:op=1:=by omega
   subst e;simp [actB,actC] at hb hc;omega
  ·have e:op=23:=by omega
   subst e;simp [actB,actRb,actC] at hb hc;omega
  ·have e:op=11:=by omega
   subst e;simp [actC] at hc;omega
  ·have e:op=12:=by omega
   subst e;simp [actC] at hc;omega
end Go.Proofs.YtddkhnclmeikfaaGreat
