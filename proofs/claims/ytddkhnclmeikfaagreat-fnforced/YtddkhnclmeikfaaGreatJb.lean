import Derived.Test.YtddkhnclmeikfaaGreatPh
import Derived.Test.YtddkhnclmeikfaaGreatPl
import Derived.Test.YtddkhnclmeikfaaGreatAw
import Derived.Test.YtddkhnclmeikfaaGreatAy
set_option maxRecDepth 100000
set_option maxHeartbeats 1000000
namespace Go.Proofs.YtddkhnclmeikfaaGreat
open Go.RowKit
attribute [local go_sem ↓] Go.wp_at_zero Go.wp_at_succ
def SOq[Inhabited ProtD](C B:Nat)(w:World)(b:Nat)(x:Hp):Prop:=∃ar kr a4 n4 k4 a8 m8 k8 br cB cO bn pb pa pk kn hd vf F vk K role,SAt B w b x ar kr (.slice a4 n4 k4) (.slice a8 m8 k8) br cB cO bn pb pa pk kn hd vf F vk K role∧SInv C x F K∧2*x.room≤(kn:Int)∧(default:ProtD).z bn=none
theorem SOq.ext[Inhabited ProtD]{C B:Nat}{w w':World}{b:Nat}{x:Hp}(h:SOq C B w b x)(e:Ext w w'):SOq C B w' b x:=by
 obtain⟨ar,kr,a4,n4,k4,a8,m8,k8,br,cB,cO,bn,pb,pa,pk,kn,hd,vf,F,vk,K,role,h,i⟩:=h;exact⟨ar,kr,a4,n4,k4,a8,m8,k8,br,cB,cO,bn,pb,pa,pk,kn,hd,vf,F,vk,K,role,h.ext e,i⟩
theorem shadeW_room(x:Hp)(y:Wd):(shadeW x y).room=x.room:=by
 unfold shadeW
 split
 ·exact(shade_same x _).1
 ·rfl
theorem fold_room:∀(ys:List Wd) (z:Hp),(ys.foldl shadeW z).room=z.room
 | [],_=>rfl
 | y::ys,z=>(fold_room ys (shadeW z y)).trans (shadeW_room z y)
theorem uroom1(x:Hp):(unit1 x).room=x.room:=by
 unfold unit1
 split
 ·rfl
 ·by_cases e:spkB (x.c x.hand.toNat)=true
  ·simp only [if_pos e];exact(shade_same x _).1
  ·simp only [if_neg e]
theorem uroom2(x:Hp):(unit2 x).room=x.room:=by
 unfold unit2
 split
 ·split
  ·exact(shadeW_room _ _).trans (shadeW_room _ _)
  ·rfl
 ·split
  ·exact fold_room x.regs x
  ·exact fold_room x.regs x
theorem uroom3(x:Hp):(unit3 x).room=x.room:=by
 unfold unit3
 split
 ·rfl
 ·split <;> rfl
theorem uroom4(x:Hp):(unit4 x).room=x.room:=by
 unfold unit4
 split <;> rfl
theorem uroom5(x:Hp):(unit5 x).room=x.room:=by
 unfold unit5
 split
 ·rfl
 ·split <;> rfl
theorem uroom6(x:Hp):(unit6 x).room=x.room:=by
 unfold unit6 dropH
 split
 ·rfl
 ·split <;> rfl
theorem unit1_any[Inhabited ProtD]{C B:Nat}{w:World}{b:Nat}{x:Hp}(h:SOq C B w b x)(s:Snd x)(hp:x.phase=1)(a:World)(ha:a.heap.size≤B)(hx:Ext a w):
  Calls Tryz.prog 328 #[.agg #[.pointer (some ⟨b,0,none⟩)]] w fun e w'=>e=.returned (nowV (unit1 x).phase b)∧Hid (SOq C B w' b (unit1 x))∧Ext a w':=by
 obtain⟨ar,kr,a4,n4,k4,a8,m8,k8,br,cB,cO,bn,pb,pa,pk,kn,hd,vf,F,vk,K,role,h,i,hk⟩:=h;have hh:=s.r1.hand;have lk:2*(unit1 x).room≤(kn:Int)∧(default:ProtD).z bn=none:=by rw[uroom1];exact hk
 by_cases he:x.hand=x.cells.length
 ·refine(roots_end h hp he a ha hx).mono ?_;rintro e w' ⟨rfl,h2,x2⟩;exact⟨rfl,⟨_,_,_,_,_,_,_,_,_,_,_,_,_,_,_,_,_,_,_,_,_,_,unhide h2,inv1 i hp,lk⟩,x2⟩
 ·refine(roots_cell h s hp x.hand.toNat (by omega) (by omega) a ha hx).mono ?_;rintro e w' ⟨rfl,h2,x2⟩;exact⟨rfl,⟨_,_,_,_,_,_,_,_,_,_,_,_,_,_,_,_,_,_,_,_,_,_,unhide h2,inv1 i hp,lk⟩,x2⟩
theorem unit2_any[Inhabited ProtD]{C B:Nat}{w:World}{b:Nat}{x:Hp}(h:SOq C B w b x)(s:Snd x)(hp:x.phase=2)(a:World)(ha:a.heap.size≤B)(hx:Ext a w):
  Calls Tryz.prog 329 #[.agg #[.pointer (some ⟨b,0,none⟩)]] w fun e w'=>e=.returned (nowV (unit2 x).phase b)∧Hid (SOq C B w' b (unit2 x))∧Ext a w':=by
 obtain⟨ar,kr,a4,n4,k4,a8,m8,k8,br,cB,cO,bn,pb,pa,pk,kn,hd,vf,F,vk,K,role,h,i,hk⟩:=h;have hh:=s.r1.sub;have n8:=s.ok.n8;have lk:2*(unit2 x).room≤(kn:Int)∧(default:ProtD).z bn=none:=by rw[uroom2];exact hk
 cases hg:x.gray with
 | nil=>
  refine(mark_look h s hp hg a ha hx).mono ?_;rintro e w' ⟨rfl,h2,x2⟩;exact⟨rfl,⟨_,_,_,_,_,_,_,_,_,_,_,_,_,_,_,_,_,_,_,_,_,_,unhide h2,inv2 i hp n8,lk⟩,x2⟩
 | cons g G=>
  obtain⟨g0,g1⟩:=s.r5.2.2 g (by rw[hg];simp);obtain⟨j,rfl⟩:∃j:Nat,g=(j:Int):=⟨g.toNat,by omega⟩;by_cases hs:x.sub<((x.c j).prs.length:Int)
  ·refine(mark_pair h s hp j G hg (by omega) x.sub.toNat (by omega) (by omega) a ha hx).mono ?_;rintro e w' ⟨rfl,h2,x2⟩;exact⟨rfl,⟨_,_,_,_,_,_,_,_,_,_,_,_,_,_,_,_,_,_,_,_,_,_,unhide h2,inv2 i hp n8,lk⟩,x2⟩
  ·refine(mark_black h n8 hp j G hg (by omega) hs a ha hx).mono ?_;rintro e w' ⟨rfl,h2,x2⟩;exact⟨rfl,⟨_,_,_,_,_,_,_,_,_,_,_,_,_,_,_,_,_,_,_,_,_,_,unhide h2,inv2 i hp n8,lk⟩,x2⟩
theorem unit3_any[Inhabited ProtD]{C B:Nat}{w:World}{b:Nat}{x:Hp}(h:SOq C B w b x)(hC:C≤1000000000)(s:Snd x)(hp:x.phase=3)(a:World)(ha:a.heap.size≤B)(hx:Ext a w):
  Calls Tryz.prog 331 #[.agg #[.pointer (some ⟨b,0,none⟩)]] w fun e w'=>e=.returned (nowV (unit3 x).phase b)∧Hid (SOq C B w' b (unit3 x))∧Ext a w':=by
 obtain⟨ar,kr,a4,n4,k4,a8,m8,k8,br,cB,cO,bn,pb,pa,pk,kn,hd,vf,F,vk,K,role,h,iv,hk⟩:=h;have hh:=s.r1.hand;have n8:=s.ok.n8;by_cases he:x.hand=x.cells.length
 ·have e3:unit3 x=toPh x 4 0:=by unfold unit3;rw[if_pos he]
  refine(sweep_end h hp he a ha hx).mono ?_;rintro e w' ⟨rfl,h2,x2⟩;exact⟨rfl,⟨_,_,_,_,_,_,_,_,_,_,_,_,_,_,_,_,_,_,_,_,_,_,unhide h2,by rw[e3];exact inv3_end iv hp he,by rw[uroom3];exact hk⟩,x2⟩
 ·obtain⟨i,hi⟩:∃i:Nat,x.hand=(i:Int):=⟨x.hand.toNat,by omega⟩;have hin:i<x.cells.length:=by omega
  have ei:x.hand.toNat=i:=by omega
  cases q1:((x.c i).st == 1)
  ·have qn:(x.c i).st≠1:=by simpa using q1
   have e3:=unit3_free s i hi hin qn;have hv:=inv3_step (z:=unit3 x) iv hp (by rw[e3];exact hp) i hi hin (by rw[e3]) (by rw[e3]) (fun q _=>by rw[e3];rfl) iv.ho (.inl ⟨rfl,by rw[e3];exact id⟩);rw[if_neg (by rw[e3];exact qn),List.append_nil] at hv;refine(sweep_free h s hp i hi hin q1 a ha hx).mono ?_;rintro e w' ⟨rfl,h2,x2⟩;exact⟨rfl,⟨_,_,_,_,_,_,_,_,_,_,_,_,_,_,_,_,_,_,_,_,_,_,unhide h2,hv,by rw[uroom3];exact hk⟩,x2⟩
  ·have q1':(x.c i).st=1:=by simpa using q1
   cases q0:((x.c i).color == 0)
   ·have e3:unit3 x={ x with cells:=x.cells.set i (whiteC (x.c i)),hand:=(i:Int)+1 }:=by
     unfold unit3;rw[if_neg he,ei,if_neg (by simp [whB,q0]),hi]
    have cs:∀q,(unit3 x).c q=if q=i then whiteC (x.c i) else x.c q:=fun q=>by
     rw[e3];exact Hp.c_set x i (whiteC (x.c i)) hin q
    have hv:=inv3_step (z:=unit3 x) iv hp (by rw[e3];exact hp) i hi hin (by rw[e3]) (by rw[e3];simp) (fun q hq=>by rw[cs,if_neg hq]) iv.ho (.inl ⟨rfl,by rw[cs,if_pos rfl];exact id⟩);rw[if_pos (by rw[cs,if_pos rfl];exact q1')] at hv
    have hK:K.length≤8000:=by
     have k3:=iv.k3 hp;have:=nd_len x.cells.length K (k3.1.imp (fun h=>Nat.ne_of_lt h)) (fun q hq=>by have:=(k3.2.1 q hq).1;omega);omega
    refine(sweep_keep h n8 hp i hi hin q1 q0 hK a ha hx).mono ?_;rintro e w' ⟨rfl,h2,x2⟩;obtain⟨vk',role',h2⟩:=unhide h2;exact⟨rfl,⟨_,_,_,_,_,_,_,_,_,_,_,_,_,_,_,_,_,_,_,_,_,_,h2,hv,by rw[uroom3];exact hk⟩,x2⟩
   ·have wh:whB (x.c i)=true:=by simp [whB,q1,q0]
    have e3:unit3 x={ x with used:=x.used-(1+(x.c i).prs.length),cells:=x.cells.set i Cl0,hand:=(i:Int)+1 }:=by
     unfold unit3;rw[if_neg he,ei,if_pos wh,hi]
    have cs:∀q,(unit3 x).c q=if q=i then Cl0 else x.c q:=fun q=>by
     rw[e3];exact Hp.c_set x i Cl0 hin q
    refine(sweep_white h s hp i hi hin wh iv.ho (by have:=iv.le;omega) a ha hx).mono ?_;rintro e w' ⟨rfl,h2,x2⟩;obtain⟨pa',pk',vf',F',role',h2,ho2,pm⟩:=unhide h2;have hv:=inv3_step (z:=unit3 x) iv hp (by rw[e3];exact hp) i hi hin (by rw[e3]) (by rw[e3];simp) (fun q hq=>by rw[cs,if_neg hq]) ho2 (.inr pm);rw[if_neg (by rw[cs,if_pos rfl];simp [Cl0]),List.append_nil] at hv;exact⟨rfl,⟨_,_,_,_,_,_,_,_,_,_,_,_,_,_,_,_,_,_,_,_,_,_,h2,hv,by rw[uroom3];exact hk⟩,x2⟩
theorem unit4_any[Inhabited ProtD]{C B:Nat}{w:World}{b:Nat}{x:Hp}(h:SOq C B w b x)(hC:C≤1000000000)(s:Snd x)(hp:x.phase=4)(a:World)(ha:a.heap.size≤B)(hx:Ext a w):
  Calls Tryz.prog 333 #[.agg #[.pointer (some ⟨b,0,none⟩)]] w fun e w'=>e=.returned (nowV (unit4 x).phase b)∧Hid (SOq C B w' b (unit4 x))∧Ext a w':=by
 obtain⟨ar,kr,a4,n4,k4,a8,m8,k8,br,cB,cO,bn,pb,pa,pk,kn,hd,vf,F,vk,K,role,h,iv,hk⟩:=h;have lk:2*(unit4 x).room≤(kn:Int)∧(default:ProtD).z bn=none:=by rw[uroom4];exact hk
 refine(move_any h iv hC s hp a ha hx).mono ?_;rintro e w' ⟨rfl,h2,x2⟩;obtain⟨pb',pa',pk',vf',F',vk',K',role',h2,i2⟩:=unhide h2;exact⟨rfl,⟨_,_,_,_,_,_,_,_,_,_,_,_,_,_,_,_,_,_,_,_,_,_,h2,i2,lk⟩,x2⟩
theorem unit5_any[Inhabited ProtD]{C B:Nat}{w:World}{b:Nat}{x:Hp}(h:SOq C B w b x)(s:Snd x)(hp:x.phase=5)(a:World)(ha:a.heap.size≤B)(hx:Ext a w):
  Calls Tryz.prog 335 #[.agg #[.pointer (some ⟨b,0,none⟩)]] w fun e w'=>e=.returned (nowV (unit5 x).phase b)∧Hid (SOq C B w' b (unit5 x))∧Ext a w':=by
 obtain⟨ar,kr,a4,n4,k4,a8,m8,k8,br,cB,cO,bn,pb,pa,pk,kn,hd,vf,F,vk,K,role,h,i,hk⟩:=h;have hh:=s.r1.hand;have hs:=s.r1.sub;have n8:=s.ok.n8;have lk:2*(unit5 x).room≤(kn:Int)∧(default:ProtD).z bn=none:=by rw[uroom5];exact hk
 by_cases he:x.hand=x.cells.length
 ·refine(mend_end h hp he a ha hx).mono ?_;rintro e w' ⟨rfl,h2,x2⟩;exact⟨rfl,⟨_,_,_,_,_,_,_,_,_,_,_,_,_,_,_,_,_,_,_,_,_,_,unhide h2,inv5 i hp n8,lk⟩,x2⟩
 ·have hin:x.hand.toNat<x.cells.length:=by omega
  by_cases hkl:x.sub.toNat<(x.c x.hand.toNat).prs.length
  ·have pf:=((s.r4.2 x.hand.toNat hin).2 x.sub.toNat hkl).2 (fun d=>by have:=d.1;omega);refine(mend_pair h hp x.hand.toNat (by omega) hin x.sub.toNat (by omega) hkl s.r2 pf.1.1 pf.2.1 a ha hx).mono ?_;rintro e w' ⟨rfl,h2,x2⟩;exact⟨rfl,⟨_,_,_,_,_,_,_,_,_,_,_,_,_,_,_,_,_,_,_,_,_,_,unhide h2,inv5 i hp n8,lk⟩,x2⟩
  ·refine(mend_next h n8 hp x.hand.toNat (by omega) hin x.sub.toNat (by omega) hkl a ha hx).mono ?_;rintro e w' ⟨rfl,h2,x2⟩;exact⟨rfl,⟨_,_,_,_,_,_,_,_,_,_,_,_,_,_,_,_,_,_,_,_,_,_,unhide h2,inv5 i hp n8,lk⟩,x2⟩
theorem unit6_any[Inhabited ProtD]{C B:Nat}{w:World}{b:Nat}{x:Hp}(h:SOq C B w b x)(hC:C≤1000000000)(s:Snd x)(hp:x.phase=6)(a:World)(ha:a.heap.size≤B)(hx:Ext a w):
  Calls Tryz.prog 336 #[.agg #[.pointer (some ⟨b,0,none⟩)]] w fun e w'=>e=.returned (nowV (unit6 x).phase b)∧Hid (SOq C B w' b (unit6 x))∧Ext a w':=by
 obtain⟨ar,kr,a4,n4,k4,a8,m8,k8,br,cB,cO,bn,pb,pa,pk,kn,hd,vf,F,vk,K,role,h,iv,hk⟩:=h;have hh:=s.r1.hand;have n8:=s.ok.n8;by_cases he:x.hand=0
 ·refine(shut_end h hp he s.r1.rounds a ha hx).mono ?_;rintro e w' ⟨rfl,h2,x2⟩;have e6:(unit6 x).phase=0∧(unit6 x).cells=x.cells:=by unfold unit6;rw[if_pos he];exact⟨rfl,rfl⟩
  exact⟨rfl,⟨_,_,_,_,_,_,_,_,_,_,_,_,_,_,_,_,_,_,_,_,_,_,unhide h2,inv6_end iv hp e6.1 e6.2,by rw[uroom6];exact hk⟩,x2⟩
 ·obtain⟨i,hi⟩:∃i:Nat,x.hand=(i:Int)+1:=⟨(x.hand-1).toNat,by omega⟩;have hin:i<x.cells.length:=by omega
  have e6:unit6 x=dropH (shutH x i) i:=by unfold unit6;rw[if_neg (by omega),show(x.hand-1).toNat=i by omega]
  have shl:(shutH x i).cells.length=x.cells.length:=by unfold shutH;split <;> simp
  have shc:∀q,(shutH x i).c q=if q=i∧(x.c i).st=2 then Cl0 else x.c q:=fun q=>by
   by_cases e2:(x.c i).st=2
   ·have:(shutH x i).c q=({ x with cells:=x.cells.set i Cl0 }:Hp).c q:=by unfold shutH;rw[if_pos e2];rfl
    rw[this,Hp.c_set x i Cl0 hin q];by_cases e:q=i
    ·rw[if_pos e,if_pos ⟨e,e2⟩]
    ·rw[if_neg e,if_neg (fun h=>e h.1)]
   ·have:(shutH x i).c q=x.c q:=by unfold shutH;rw[if_neg e2];rfl
    rw[this,if_neg (fun h=>e2 h.2)]
  have d1:(unit6 x).phase=6∧(unit6 x).hand=(i:Int)∧(unit6 x).cells.length≤x.cells.length∧∀q,q<(unit6 x).cells.length→(unit6 x).c q=(shutH x i).c q:=by
   rw[e6];unfold dropH
   split
   ·refine⟨hp,rfl,by simp [shl];omega,fun q hq=>?_⟩;simp at hq;simp only [Hp.c,List.getD_eq_getElem?_getD,List.getElem?_take];rw[if_pos (by omega)]
   ·exact⟨hp,rfl,by rw[shl];omega,fun q _=>rfl⟩
  refine(shut_cell h n8 hp i hi hin (by have:=s.r1.cells;omega) iv.ho (by have:=iv.le;omega) a ha hx).mono ?_;rintro e w' ⟨rfl,h2,x2⟩;obtain⟨pa',pk',vf',F',role',h2,ho2,pm⟩:=unhide h2
  have hv:=inv6_cell (z:=unit6 x) iv hp d1.1 i hi d1.2.1 d1.2.2.1 (fun q hq hne=>by rw[d1.2.2.2 q hq,shc,if_neg (fun h=>hne h.1)]) ho2 (by
   rcases pm with⟨_,p⟩ | ⟨n2,p⟩
   ·exact .inr p
   ·exact .inl ⟨p,fun hq=>by rw[d1.2.2.2 i hq,shc,if_neg (fun h=>n2 h.2)];exact id⟩)
  exact⟨rfl,⟨_,_,_,_,_,_,_,_,_,_,_,_,_,_,_,_,_,_,_,_,_,_,h2,hv,by rw[uroom6];exact hk⟩,x2⟩
theorem unitH_room(x:Hp):(unitH x).room=x.room:=by
 unfold unitH
 repeat (first | (split) | exact uroom1 x | exact uroom2 x | exact uroom3 x | exact uroom4 x | exact uroom5 x | exact uroom6 x | rfl)
theorem itU_room:∀(k:Nat) (x:Hp),(itU k x).room=x.room
 | 0,_=>rfl
 | k+1,x=>by
  first
   | exact(itU_room k (unitH x)).trans (unitH_room x)
   | exact(unitH_room (itU k x)).trans (itU_room k x)
theorem endH_room{x y:Hp}(h:endH x y):y.room=x.room:=by
 obtain⟨k,_,e⟩:=h;rw[e];exact itU_room k x
theorem RdIs.room{x y:Hp}(h:RdIs x y):y.room=x.room:=by
 obtain⟨z,a,b⟩:=h;exact(endH_room b).trans (show z.room=x.room from endH_room a)
theorem RoomIs.room{x y:Hp}{u:Nat}(h:RoomIs x u y):y.room=x.room:=by
 rcases h with h | h
 ·rw[h.2]
 ·exact h.2.room
theorem stepH_room(x:Hp)(n:Nat):(stepH x n).room=x.room:=by unfold stepH;split <;> rfl
theorem PaceIs.room{x y:Hp}{u:Nat}(h:PaceIs x u y):y.room=x.room:=by
 rcases h with h | ⟨_,k,_,h⟩
 ·rw[h.2]
 ·rw[h];exact(itU_room k _).trans (stepH_room x _)
theorem cutTo_room(x:Hp)(H:Nat→Bool):∀k,(cutTo x H k).room=x.room
 | 0=>rfl
 | k+1=>by
  unfold cutTo
  split
  ·exact cutTo_room x H k
  ·exact cutTo_room x H k
theorem dueTo_room(x z:Hp)(H:Nat→Bool):∀k,(dueTo x z H k).room=z.room
 | 0=>rfl
 | k+1=>by
  unfold dueTo
  split
  ·exact dueTo_room x z H k
  ·exact dueTo_room x z H k
theorem HalfIs.room{x:Hp}{f c:Nat}{y:Hp}{cd nm:Int}{R:Nat→Prop}(h:HalfIs x f c y cd nm R)(hR:∀i,R i→y.room=x.room):y.room=x.room:=by
 rcases h with h | h | h
 ·rw[h.2.1]
 ·rw[h.2.2.1]
 ·exact hR _ h.2.2.1
theorem CellIs.room{x:Hp}{f:Nat}{y:Hp}{cd nm:Int}{R:Nat→Prop}(h:CellIs x f y cd nm R)(hR:∀i,R i→y.room=x.room):y.room=x.room:=by
 rcases h with h | h
 ·rw[h.2.1]
 ·exact hR _ h.2
theorem DoR.room{x:Hp}{a b c:Nat}{n:Int}{y:Hp}{cd nm:Int}{k:Nat}(h:DoR x a b c n y cd nm k):y.room=x.room:=by
 unfold DoR at h
 split at h
 ·rcases h.2 with h | ⟨_,z,hz,h | h⟩
  ·rw[h.2.1]
  ·rw[h.2.1];exact hz.room
  ·exact(PaceIs.room h.2.2).trans (show z.room=x.room from hz.room)
 ·rw[h.1];rfl
 ·rw[h.1];rfl
 ·rw[h.1];rfl
 ·exact h.room (fun i r=>by rw[r];rfl)
 ·exact h.room (fun i r=>by rw[r];rfl)
 ·exact h.room (fun i r=>by rw[r,shadeW_room];rfl)
 ·exact h.room (fun i r=>by rw[r,shadeW_room];rfl)
 ·refine h.room (fun i r=>?_);rcases r.2 with h | ⟨_,z,hz,h | h⟩
  ·rw[h.2.1]
  ·rw[h.2.1];exact hz.room
  ·exact(PaceIs.room h.2.2).trans (show z.room=x.room from hz.room)
 ·exact h.room (fun i r=>by rw[r.1];rfl)
 ·exact h.room (fun i r=>by rw[r.1];rfl)
 ·refine h.room (fun i r=>?_);rw[r.1]
  split
  ·rw[(shade_same _ _).1];rfl
  ·rfl
 ·rw[h.1]
 ·rw[h.1]
 ·rw[h.1]
 ·exact h.room (fun i r=>by rw[r.1])
 ·exact h.room (fun i r=>by rw[r.1])
 ·obtain⟨_,H,_,e,_⟩:=h;rw[e];exact(dueTo_room _ _ _ _).trans (cutTo_room _ _ _)
 ·rcases h.2 with h | ⟨i,h⟩
  ·rw[h.2.1];rfl
  ·rw[h.2.1];rfl
 ·rw[h.1]
 ·rw[h.1]
 ·obtain⟨_,_,k,_,e⟩:=h;rw[e];exact(itU_room k _).trans (stepH_room x _)
 ·rw[h.1];rfl
 ·exact h.2.2.room
 ·exact h.elim
theorem SInv.alike{C:Nat}{x:Hp}{F:List Int}{K:List Nat}(h:SInv C x F K){z:Hp}(hs:SameSt x z)(hp:z.phase=x.phase)(hh:z.hand=x.hand):SInv C z F K where
 ho:=h.ho
 al:=fun i hi h0=>h.al i (by rw[←hs.1];exact hi) (by rw[←hs.2];exact h0)
 nn:=h.nn
 le:=by
  have e:remU z=remU x:=by unfold remU;rw[hp,hh,hs.1]
  rw[e];exact h.le
 k3:=fun e=>by
  have k:=h.k3 (by rw[←hp];exact e);rw[hh];exact⟨k.1,fun i hi=>⟨(k.2.1 i hi).1,by rw[hs.2];exact(k.2.1 i hi).2⟩,fun i hi h1 hn j hj h0=>k.2.2 i hi (by rw[←hs.2];exact h1) hn j (by rw[←hs.1];exact hj) (by rw[←hs.2];exact h0)⟩
 k4:=fun e=>by
  have k:=h.k4 (by rw[←hp];exact e);exact⟨k.1,fun i hi=>⟨by rw[hs.1];exact(k.2.1 i hi).1,by rw[hs.2];exact(k.2.1 i hi).2⟩,fun i hi h1 hn j hj h0=>k.2.2 i (by rw[←hs.1];exact hi) (by rw[←hs.2];exact h1) hn j (by rw[←hs.1];exact hj) (by rw[←hs.2];exact h0)⟩
 k0:=fun a b=>h.k0 (by rw[←hp];exact a) (by rw[←hp];exact b)
theorem SAt.far{z z2:Nat→Option Obj}{B:Nat}{w w':World}{b:Nat}{x:Hp}{ar:Option Addr}{kr:Nat}{v4 v8:Value}{br bn:Nat}{cB cO:Nat→Nat}{pb:Nat→Nat}{pa:Nat→Option Addr}{pk:Nat→Nat}{kn hd:Nat}{vf:Value}{F:List Int}{vk:Value}{K:List Nat}{role role':Nat→Nat}(h:@SAt ⟨⟨z⟩⟩ B w b x ar kr v4 v8 br cB cO bn pb pa pk kn hd vf F vk K role)(hs:w.heap.size≤w'.heap.size)(far:∀q,q<w.heap.size→(role q≠1∨q=bn)→w'.heap[q]?=w.heap[q]?)(hr:∀q,q<w.heap.size→(role q≠1∨q=bn)→role' q=role q)(hp:∀q o,z2 q=some o→role' q=1∧w'.heap[q]?=some o):@SAt ⟨⟨z2⟩⟩ B w' b x ar kr v4 v8 br cB cO bn pb pa pk kn hd vf F vk K role':=by
 obtain⟨sb,rs,sp,_⟩:=h
 letI:Inhabited ProtD:=⟨⟨z2⟩⟩
 refine⟨sb.same hs (far b sb.nb.1 (.inl (by rw[sp.b];omega))) (far bn sb.lo.2.2.1 (.inr rfl)) (fun q hq=>far q (sb.fr.own.lt q hq).2 (.inl (by rw[sp.f q hq];omega))) (fun q hq=>far q (sb.kp.lt q hq).2 (.inl (by rw[sp.k q hq];omega))),rs.same hs (fun hl=>far br (rs.nr hl).1.1 (.inl (by rw[sp.r hl];omega))) (fun q hq=>far (cB q) (rs.nc q hq).1.1 (.inl (by rw[sp.c q hq];omega))) (fun q hq hl=>far (pb q) (rs.pl q hq hl).2.1.1 (.inl (by rw[sp.p q hq hl];omega))),⟨?_,?_,fun hl=>?_,fun q hq=>?_,fun q hq=>?_,fun q hq=>?_,fun q hq hl=>?_⟩,hp⟩
 ·rw[hr b sb.nb.1 (.inl (by rw[sp.b];omega))];exact sp.b
 ·rw[hr bn sb.lo.2.2.1 (.inr rfl)];exact sp.n
 ·rw[hr br (rs.nr hl).1.1 (.inl (by rw[sp.r hl];omega))];exact sp.r hl
 ·rw[hr (cB q) (rs.nc q hq).1.1 (.inl (by rw[sp.c q hq];omega))];exact sp.c q hq
 ·rw[hr q (sb.fr.own.lt q hq).2 (.inl (by rw[sp.f q hq];omega))];exact sp.f q hq
 ·rw[hr q (sb.kp.lt q hq).2 (.inl (by rw[sp.k q hq];omega))];exact sp.k q hq
 ·rw[hr (pb q) (rs.pl q hq hl).2.1.1 (.inl (by rw[sp.p q hq hl];omega))];exact sp.p q hq hl
theorem SOq.enter{p:Inhabited ProtD}{C B:Nat}{w w0:World}{b:Nat}{x:Hp}(h:@SOq p C B w b x)(e:Ext w w0):∃p1,Own p w.heap.size w0.heap.size w0 p1∧@SOq p1 C B w0 b x:=by
 obtain⟨ar,kr,a4,n4,k4,a8,m8,k8,br,cB,cO,bn,pb,pa,pk,kn,hd,vf,F,vk,K,role,h,i,k⟩:=h;have h0:=h;obtain⟨sb,_,_,pr⟩:=h0;obtain⟨p1,hp⟩:=Own.make p w.heap.size w0.heap.size w0 (fun q o hq=>obj_lt (pr q o hq).2) (Nat.le_refl _);refine⟨p1,hp,ar,kr,a4,n4,k4,a8,m8,k8,br,cB,cO,bn,pb,pa,pk,kn,hd,vf,F,vk,K,fun q=>if w.heap.size≤q then 1 else role q,SAt.far (z:=(@default ProtD p).z) (z2:=(@default ProtD p1).z) h e.size (fun q hq _=>e.block q hq) (fun q hq _=>if_neg (by omega)) (fun q o hq=>?_),i,k.1,by rw[hp.z,if_neg (fun u=>by have:=sb.lo.2.2.1;omega)];exact k.2⟩;rw[hp.z] at hq
 split at hq
 ·rename_i c;exact⟨if_pos c.1,hq⟩
 ·obtain⟨h1,h2⟩:=pr q o hq;have hl:=obj_lt h2;exact⟨by show(if w.heap.size≤q then 1 else role q)=1;rw[if_neg (by omega)];exact h1,(e.block q hl).trans h2⟩
theorem SOq.own{p p1:Inhabited ProtD}{lo hi:Nat}{c:World}(o:Own p lo hi c p1){C B:Nat}{w:World}{b:Nat}{x:Hp}(h:@SOq p1 C B w b x):∀q,lo≤q→q<hi→w.heap[q]?=c.heap[q]?:=fun q h1 h2=>by
 obtain⟨ar,kr,a4,n4,k4,a8,m8,k8,br,cB,cO,bn,pb,pa,pk,kn,hd,vf,F,vk,K,role,h,i,k⟩:=h;obtain⟨_,_,_,pr⟩:=h;obtain⟨ob,hb⟩:=obj_some (w:=c) (q:=q) (by have:=o.h;omega);have:=(pr q ob (by rw[o.z q,if_pos ⟨h1,h2⟩];exact hb)).2;rw[this,hb]
theorem SOq.obj[Inhabited ProtD]{C B:Nat}{w:World}{b:Nat}{x:Hp}(h:SOq C B w b x){q:Nat}{o:Obj}(hz:(default:ProtD).z q=some o):w.heap[q]?=some o:=by
 obtain⟨ar,kr,a4,n4,k4,a8,m8,k8,br,cB,cO,bn,pb,pa,pk,kn,hd,vf,F,vk,K,role,h,i,k⟩:=h;exact(h.pr q o hz).2
structure SReg[Inhabited ProtD](C B:Nat)(w:World)(b:Nat)(x:Hp)(br kr:Nat):Prop where
 c3:w.cell? ⟨b,3,none⟩=some (.slice (some ⟨br,0,none⟩) 16 kr)
 r:∀i,i<16→WdAt w br (i*3) (x.r i)
 f:∀j,w.frozen? ⟨br,j,none⟩=false
 lo:B≤br∧br<w.heap.size
 set:∀(W:World) (i:Nat) (y:Wd),Ext w W→i<16→SOq C B (wordO W br (i*3) y) b (regTo x i y)
theorem SOq.regs[Inhabited ProtD]{C B:Nat}{w:World}{b:Nat}{x:Hp}(h:SOq C B w b x)(s:Snd x):∃br kr,SReg C B w b x br kr:=by
 obtain⟨ar,kr,a4,n4,k4,a8,m8,k8,br,cB,cO,bn,pb,pa,pk,kn,hd,vf,F,vk,K,role,h,v,k⟩:=h;have r16:=s.r1.regs;have h0:0<x.regs.length:=by omega
 refine⟨br,kr,?_,fun i hi=>?_,(h.rw.nr h0).1.2,⟨(h.rw.nr h0).2,(h.rw.nr h0).1.1⟩,fun W i y e hi=>?_⟩
 ·have:=h.sb.bx.2.2.2.1;rw[h.sb.ha h0,r16] at this;exact this
 ·have:=h.rw.r i (by omega);rw[Hp.r_eq] at this;exact this
 ·have g1:=h.ext e;exact⟨ar,kr,a4,n4,k4,a8,m8,k8,br,cB,cO,bn,pb,pa,pk,kn,hd,vf,F,vk,K,role,g1.setr i (by omega) y (wordO_only _ _ _ _) (wordO_nf (g1.rw.nr h0).1 _ _) (wordO_at _ _ _ _ _ (g1.rw.r i (by omega))) (fun m hm=>wordO_other _ _ _ _ m hm),v.alike (SameSt.cells rfl) rfl rfl,k⟩
theorem SReg.ext[Inhabited ProtD]{C B:Nat}{w w':World}{b:Nat}{x:Hp}{br kr:Nat}(h:SReg C B w b x br kr)(e:Ext w w'):SReg C B w' b x br kr:=
 ⟨e.keep h.c3,fun i hi=>(h.r i hi).ext e,fun j=>((bcell e).2 br j h.lo.2).trans (h.f j),⟨h.lo.1,Nat.lt_of_lt_of_le h.lo.2 e.size⟩,fun W i y e2 hi=>h.set W i y (e.trans e2) hi⟩
def deedO(b:Nat)(op:Int)(a p c:Nat)(n:Int)(rv:Value):Obj:=.cells #[.pointer (some ⟨b,0,none⟩),iv op,iv a,iv p,iv c,iv n,rv] 293
structure Deed(w:World)(bd b:Nat)(op:Int)(a p c:Nat)(n:Int)(rv:Value):Prop where
 d0:w.cell? ⟨bd,0,none⟩=some (.pointer (some ⟨b,0,none⟩))
 d1:w.cell? ⟨bd,1,none⟩=some (iv op)
 d2:w.cell? ⟨bd,2,none⟩=some (iv a)
 d3:w.cell? ⟨bd,3,none⟩=some (iv p)
 d4:w.cell? ⟨bd,4,none⟩=some (iv c)
 d5:w.cell? ⟨bd,5,none⟩=some (iv n)
 d6:w.cell? ⟨bd,6,none⟩=some rv
theorem Deed.of{w:World}{bd b:Nat}{op:Int}{a p c:Nat}{n:Int}{rv:Value}(h:w.heap[bd]?=some (deedO b op a p c n rv)):Deed w bd b op a p c n rv:=by
 have k:=fun j=>cell_of_row w bd j _ _ (0,0) h
 exact⟨k 0,k 1,k 2,k 3,k 4,k 5,k 6⟩
theorem Deed.ext{w w':World}{bd b:Nat}{op:Int}{a p c:Nat}{n:Int}{rv:Value}(h:Deed w bd b op a p c n rv)(e:Ext w w'):Deed w' bd b op a p c n rv:=
 ⟨e.keep h.d0,e.keep h.d1,e.keep h.d2,e.keep h.d3,e.keep h.d4,e.keep h.d5,e.keep h.d6⟩
def errV(cd:Int):Value:=if cd=0 then .nilIface else .iface 283 (.agg #[iv cd])
abbrev WayPost[Inhabited ProtD](C B b:Nat)(x:Hp)(a p c:Nat)(n:Int)(k:Nat)(v:World)(e:Ending)(w':World):Prop:=∃(y:Hp) (cd nm:Int),Hid (e=.returned (.tuple #[iv nm,errV cd]))∧Hid (DoR x a p c n y cd nm k)∧Hid (SOq (C+64000) B w' b y)∧Ext v w'
theorem dA_any[Inhabited ProtD]{C B:Nat}{w:World}{b bd:Nat}{x:Hp}{br kr:Nat}{op:Int}{a p c:Nat}{n:Int}{rv:Value}(h:SReg C B w b x br kr)(d:Deed w bd b op a p c n rv)(ha:a<16):
  Calls Tryz.prog 320 #[.pointer (some ⟨bd,0,none⟩)] w fun e w'=>e=.returned (.pointer (some ⟨br,a*3,none⟩))∧Ext w w':=by
 have c3:=h.c3;obtain⟨d0,d1,d2,d3,d4,d5,d6⟩:=d;have i0:(0:Int)≤(a:Int):=by omega
 have i1:(a:Int)<16:=by omega
 clear h;go_enter Tryz.func320,Tryz.ntmps320;go_wp2_with fail;go_quiet (fail);go_wp2_with fail;go_ret;exact⟨rfl,Ext.drewN (Ext.refl _) _⟩
theorem dB_any[Inhabited ProtD]{C B:Nat}{w:World}{b bd:Nat}{x:Hp}{br kr:Nat}{op:Int}{a p c:Nat}{n:Int}{rv:Value}(h:SReg C B w b x br kr)(d:Deed w bd b op a p c n rv)(ha:p<16):
  Calls Tryz.prog 322 #[.pointer (some ⟨bd,0,none⟩)] w fun e w'=>e=.returned (.pointer (some ⟨br,p*3,none⟩))∧Ext w w':=by
 have c3:=h.c3;obtain⟨d0,d1,d2,d3,d4,d5,d6⟩:=d;have i0:(0:Int)≤(p:Int):=by omega
 have i1:(p:Int)<16:=by omega
 clear h;go_enter Tryz.func322,Tryz.ntmps322;go_wp2_with fail;go_quiet (fail);go_wp2_with fail;go_ret;exact⟨rfl,Ext.drewN (Ext.refl _) _⟩
theorem SOq.box[Inhabited ProtD]{C B:Nat}{w:World}{b:Nat}{x:Hp}(h:SOq C B w b x):w.cell? ⟨b,5,none⟩=some (iv x.phase)∧w.frozen? ⟨b,5,none⟩=false∧B≤b∧b<w.heap.size:=by
 obtain⟨ar,kr,a4,n4,k4,a8,m8,k8,br,cB,cO,bn,pb,pa,pk,kn,hd,vf,F,vk,K,role,h,i⟩:=h;exact⟨h.sb.bx.2.2.2.2.2.1,h.sb.nb.2 5,h.sb.lo.1,h.sb.nb.1⟩
def unitN : String := "loop.example/spool/impl.unit"
theorem mth_roots(b:Nat)(W:World){s:String}(hs:s=unitN):(method 443 233 (.agg #[.pointer (some ⟨b,0,none⟩)]) s).run Tryz.prog W=.ok (328,.agg #[.pointer (some ⟨b,0,none⟩)]) W:=by subst hs;kernel_rfl
theorem neq_roots(b:Nat)(W:World):(binOp .neq 182 (.iface 233 (.agg #[.pointer (some ⟨b,0,none⟩)])) .nilIface).run Tryz.prog W=.ok (.bool true) W:=by kernel_rfl
theorem mth_mark(b:Nat)(W:World){s:String}(hs:s=unitN):(method 443 234 (.agg #[.pointer (some ⟨b,0,none⟩)]) s).run Tryz.prog W=.ok (329,.agg #[.pointer (some ⟨b,0,none⟩)]) W:=by subst hs;kernel_rfl
theorem neq_mark(b:Nat)(W:World):(binOp .neq 182 (.iface 234 (.agg #[.pointer (some ⟨b,0,none⟩)])) .nilIface).run Tryz.prog W=.ok (.bool true) W:=by kernel_rfl
theorem mth_sweep(b:Nat)(W:World){s:String}(hs:s=unitN):(method 443 235 (.agg #[.pointer (some ⟨b,0,none⟩)]) s).run Tryz.prog W=.ok (331,.agg #[.pointer (some ⟨b,0,none⟩)]) W:=by subst hs;kernel_rfl
theorem neq_sweep(b:Nat)(W:World):(binOp .neq 182 (.iface 235 (.agg #[.pointer (some ⟨b,0,none⟩)])) .nilIface).run Tryz.prog W=.ok (.bool true) W:=by kernel_rfl
theorem mth_move(b:Nat)(W:World){s:String}(hs:s=unitN):(method 443 236 (.agg #[.pointer (some ⟨b,0,none⟩)]) s).run Tryz.prog W=.ok (333,.agg #[.pointer (some ⟨b,0,none⟩)]) W:=by subst hs;kernel_rfl
theorem neq_move(b:Nat)(W:World):(binOp .neq 182 (.iface 236 (.agg #[.pointer (some ⟨b,0,none⟩)])) .nilIface).run Tryz.prog W=.ok (.bool true) W:=by kernel_rfl
theorem mth_mend(b:Nat)(W:World){s:String}(hs:s=unitN):(method 443 237 (.agg #[.pointer (some ⟨b,0,none⟩)]) s).run Tryz.prog W=.ok (335,.agg #[.pointer (some ⟨b,0,none⟩)]) W:=by subst hs;kernel_rfl
theorem neq_mend(b:Nat)(W:World):(binOp .neq 182 (.iface 237 (.agg #[.pointer (some ⟨b,0,none⟩)])) .nilIface).run Tryz.prog W=.ok (.bool true) W:=by kernel_rfl
theorem mth_shut(b:Nat)(W:World){s:String}(hs:s=unitN):(method 443 238 (.agg #[.pointer (some ⟨b,0,none⟩)]) s).run Tryz.prog W=.ok (336,.agg #[.pointer (some ⟨b,0,none⟩)]) W:=by subst hs;kernel_rfl
theorem neq_shut(b:Nat)(W:World):(binOp .neq 182 (.iface 238 (.agg #[.pointer (some ⟨b,0,none⟩)])) .nilIface).run Tryz.prog W=.ok (.bool true) W:=by kernel_rfl
theorem work_any[Inhabited ProtD]{C B:Nat}{w:World}{b:Nat}{x:Hp}(n:Nat)(h:SOq C B w b x)(hC:C≤1000000000)(s:Snd x)(a:World)(ha:a.heap.size≤B)(hx:Ext a w):
  Calls Tryz.prog 144 #[.pointer (some ⟨b,0,none⟩),.int .i64 n] w fun e w'=>∃k:Nat,e=.returned (.int .i64 k)∧Hid (StepIs x n k)∧Hid (SOq C B w' b (itU k x))∧Ext a w':=by
 have HS:=hide h;have S:=hide s;have NW:=hide (now_any x.phase b w h.box.1 s.r1.phase);have XS:=hide hx;clear h s;go_enter Tryz.func144,Tryz.ntmps144;go_wp2_with fail;refine(unhide NW).mono ?_;rintro e w1 ⟨rfl,hw1⟩;subst hw1;go_wp2_with fail
 go_loopg [5,6] (14000000) (fun gk u now wr=>∃k:Nat,u=.int .i64 k∧now=nowV (itU k x).phase b∧Hid (k≤n)∧Hid (Runs x k)∧Hid (mu (itU k x)≤gk)∧Hid (SOq C B wr b (itU k x))∧Hid (Ext a wr))
 case atStart=>exact⟨0,rfl,rfl,Nat.zero_le _,Runs.zero _,(unhide S).mu_le,unhide HS,unhide XS⟩
 case round=>
  clear HS XS NW;obtain⟨k,rfl,rfl,hkn,hr,hm,hG,hxr⟩:=hrel;have kl:=(unhide hr).le (unhide S);have SK:=hide ((unhide S).itU k);by_cases p0:(itU k x).phase=0
  ·have EP:=hide p0;have e0:nowV (itU k x).phase b=.nilIface:=by rw[p0];rfl
   have q0:∀W,(binOp .neq 182 .nilIface .nilIface).run Tryz.prog W=.ok (.bool false) W:=fun _=>by kernel_rfl
   rw[e0];clear p0 e0;go_wp2_with fail;go_ret;exact⟨k,rfl,⟨unhide hr,unhide hkn,.inr (unhide EP)⟩,unhide hG,unhide hxr⟩
  ·by_cases hlt:k<n
   ·have h1:(k:Int)<(n:Int):=by omega
    have R3:=hide ((unhide hr).succ p0);have M3:=hide (show mu (itU (k+1) x)<mu (itU k x) from(unhide SK).less p0);have wk:wrap64 ((k:Int)+1)=(k:Int)+1:=by unfold wrap64;omega
    have HP:=hide (unhide SK).r1.phase;have P0:=hide p0;have HK:=hide (show k+1≤n by omega);clear p0;by_cases p1:(itU k x).phase=1
    ·have e1:nowV (itU k x).phase b=.iface 233 (.agg #[.pointer (some ⟨b,0,none⟩)]):=by rw[p1];rfl
     have q1:∀W,(binOp .neq 182 (.iface 233 (.agg #[.pointer (some ⟨b,0,none⟩)])) .nilIface).run Tryz.prog W=.ok (.bool true) W:=neq_roots b;have EU:=hide (show unit1 (itU k x)=itU (k+1) x by show unit1 (itU k x)=unitH (itU k x);unfold unitH;simp [p1]);have P1:=hide p1;rw[e1];clear p1 e1;go_wp2_with fail;rw[mth_roots b _ (show _=unitN by kernel_rfl)];go_wp2_with fail;refine(unit1_any (unhide hG) (unhide SK) (unhide P1) a ha (unhide hxr)).mono ?_;rintro e w3 ⟨rfl,h3,x3⟩;rw[unhide EU] at h3 ⊢;have X3:=hide x3;clear x3;go_wp2_with fail
     go_roundg (mu (itU (k+1) x))
     case measure=>have:=unhide M3;have:=unhide hm;omega
     case rel=>exact⟨k+1,by go_num,rfl,unhide HK,unhide R3,Nat.le_refl _,unhide h3,unhide X3⟩
    ·skip
     by_cases p2:(itU k x).phase=2
     ·have e1:nowV (itU k x).phase b=.iface 234 (.agg #[.pointer (some ⟨b,0,none⟩)]):=by rw[p2];rfl
      have q1:∀W,(binOp .neq 182 (.iface 234 (.agg #[.pointer (some ⟨b,0,none⟩)])) .nilIface).run Tryz.prog W=.ok (.bool true) W:=neq_mark b;have EU:=hide (show unit2 (itU k x)=itU (k+1) x by show unit2 (itU k x)=unitH (itU k x);unfold unitH;simp [p2]);have P1:=hide p2;rw[e1];clear p2 e1;go_wp2_with fail;rw[mth_mark b _ (show _=unitN by kernel_rfl)];go_wp2_with fail;refine(unit2_any (unhide hG) (unhide SK) (unhide P1) a ha (unhide hxr)).mono ?_;rintro e w3 ⟨rfl,h3,x3⟩;rw[unhide EU] at h3 ⊢;have X3:=hide x3;clear x3;go_wp2_with fail
      go_roundg (mu (itU (k+1) x))
      case measure=>have:=unhide M3;have:=unhide hm;omega
      case rel=>exact⟨k+1,by go_num,rfl,unhide HK,unhide R3,Nat.le_refl _,unhide h3,unhide X3⟩
     ·skip
      by_cases p3:(itU k x).phase=3
      ·have e1:nowV (itU k x).phase b=.iface 235 (.agg #[.pointer (some ⟨b,0,none⟩)]):=by rw[p3];rfl
       have q1:∀W,(binOp .neq 182 (.iface 235 (.agg #[.pointer (some ⟨b,0,none⟩)])) .nilIface).run Tryz.prog W=.ok (.bool true) W:=neq_sweep b;have EU:=hide (show unit3 (itU k x)=itU (k+1) x by show unit3 (itU k x)=unitH (itU k x);unfold unitH;simp [p3]);have P1:=hide p3;rw[e1];clear p3 e1;go_wp2_with fail;rw[mth_sweep b _ (show _=unitN by kernel_rfl)];go_wp2_with fail;refine(unit3_any (unhide hG) hC (unhide SK) (unhide P1) a ha (unhide hxr)).mono ?_;rintro e w3 ⟨rfl,h3,x3⟩;rw[unhide EU] at h3 ⊢;have X3:=hide x3;clear x3;go_wp2_with fail
       go_roundg (mu (itU (k+1) x))
       case measure=>have:=unhide M3;have:=unhide hm;omega
       case rel=>exact⟨k+1,by go_num,rfl,unhide HK,unhide R3,Nat.le_refl _,unhide h3,unhide X3⟩
      ·skip
       by_cases p4:(itU k x).phase=4
       ·have e1:nowV (itU k x).phase b=.iface 236 (.agg #[.pointer (some ⟨b,0,none⟩)]):=by rw[p4];rfl
        have q1:∀W,(binOp .neq 182 (.iface 236 (.agg #[.pointer (some ⟨b,0,none⟩)])) .nilIface).run Tryz.prog W=.ok (.bool true) W:=neq_move b;have EU:=hide (show unit4 (itU k x)=itU (k+1) x by show unit4 (itU k x)=unitH (itU k x);unfold unitH;simp [p4]);have P1:=hide p4;rw[e1];clear p4 e1;go_wp2_with fail;rw[mth_move b _ (show _=unitN by kernel_rfl)];go_wp2_with fail;refine(unit4_any (unhide hG) hC (unhide SK) (unhide P1) a ha (unhide hxr)).mono ?_;rintro e w3 ⟨rfl,h3,x3⟩;rw[unhide EU] at h3 ⊢;have X3:=hide x3;clear x3;go_wp2_with fail
        go_roundg (mu (itU (k+1) x))
        case measure=>have:=unhide M3;have:=unhide hm;omega
        case rel=>exact⟨k+1,by go_num,rfl,unhide HK,unhide R3,Nat.le_refl _,unhide h3,unhide X3⟩
       ·skip
        by_cases p5:(itU k x).phase=5
        ·have e1:nowV (itU k x).phase b=.iface 237 (.agg #[.pointer (some ⟨b,0,none⟩)]):=by rw[p5];rfl
         have q1:∀W,(binOp .neq 182 (.iface 237 (.agg #[.pointer (some ⟨b,0,none⟩)])) .nilIface).run Tryz.prog W=.ok (.bool true) W:=neq_mend b;have EU:=hide (show unit5 (itU k x)=itU (k+1) x by show unit5 (itU k x)=unitH (itU k x);unfold unitH;simp [p5]);have P1:=hide p5;rw[e1];clear p5 e1;go_wp2_with fail;rw[mth_mend b _ (show _=unitN by kernel_rfl)];go_wp2_with fail;refine(unit5_any (unhide hG) (unhide SK) (unhide P1) a ha (unhide hxr)).mono ?_;rintro e w3 ⟨rfl,h3,x3⟩;rw[unhide EU] at h3 ⊢;have X3:=hide x3;clear x3;go_wp2_with fail
         go_roundg (mu (itU (k+1) x))
         case measure=>have:=unhide M3;have:=unhide hm;omega
         case rel=>exact⟨k+1,by go_num,rfl,unhide HK,unhide R3,Nat.le_refl _,unhide h3,unhide X3⟩
        ·skip
         have p6:(itU k x).phase=6:=by have:=unhide HP;have:=unhide P0;omega
         have e1:nowV (itU k x).phase b=.iface 238 (.agg #[.pointer (some ⟨b,0,none⟩)]):=by rw[p6];rfl
         have q1:∀W,(binOp .neq 182 (.iface 238 (.agg #[.pointer (some ⟨b,0,none⟩)])) .nilIface).run Tryz.prog W=.ok (.bool true) W:=neq_shut b;have EU:=hide (show unit6 (itU k x)=itU (k+1) x by show unit6 (itU k x)=unitH (itU k x);unfold unitH;simp [p6]);have P1:=hide p6;rw[e1];clear p6 e1;go_wp2_with fail;rw[mth_shut b _ (show _=unitN by kernel_rfl)];go_wp2_with fail;refine(unit6_any (unhide hG) hC (unhide SK) (unhide P1) a ha (unhide hxr)).mono ?_;rintro e w3 ⟨rfl,h3,x3⟩;rw[unhide EU] at h3 ⊢;have X3:=hide x3;clear x3;go_wp2_with fail
         go_roundg (mu (itU (k+1) x))
         case measure=>have:=unhide M3;have:=unhide hm;omega
         case rel=>exact⟨k+1,by go_num,rfl,unhide HK,unhide R3,Nat.le_refl _,unhide h3,unhide X3⟩
   ·have h1:¬(k:Int)<(n:Int):=by omega
    have hkn2:=hide (show k=n by have:=unhide hkn;omega)
    have Q:=hide (show ∃T,nowV (itU k x).phase b=.iface T (.agg #[.pointer (some ⟨b,0,none⟩)])∧∀W,(binOp .neq 182 (.iface T (.agg #[.pointer (some ⟨b,0,none⟩)])) .nilIface).run Tryz.prog W=.ok (.bool true) W by
     have hp:=(unhide SK).r1.phase;have h:(itU k x).phase=1∨(itU k x).phase=2∨(itU k x).phase=3∨(itU k x).phase=4∨(itU k x).phase=5∨(itU k x).phase=6:=by omega
     rcases h with e | e | e | e | e | e
     ·exact⟨_,by rw[e];rfl,neq_roots b⟩
     ·exact⟨_,by rw[e];rfl,neq_mark b⟩
     ·exact⟨_,by rw[e];rfl,neq_sweep b⟩
     ·exact⟨_,by rw[e];rfl,neq_move b⟩
     ·exact⟨_,by rw[e];rfl,neq_mend b⟩
     ·exact⟨_,by rw[e];rfl,neq_shut b⟩)
    obtain⟨T,e1,q1⟩:=unhide Q;rw[e1];clear p0 e1;go_wp2_with fail;go_ret;exact⟨k,rfl,⟨unhide hr,unhide hkn,.inl (unhide hkn2)⟩,unhide hG,unhide hxr⟩
theorem SOq.pace[Inhabited ProtD]{C B:Nat}{w:World}{b:Nat}{x:Hp}(h:SOq C B w b x)(u t:Int):SOq C B ((w.setCell ⟨b,9,none⟩ (iv u)).setCell ⟨b,10,none⟩ (iv t)) b (paceTo x u t):=by
 obtain⟨ar,kr,a4,n4,k4,a8,m8,k8,br,cB,cO,bn,pb,pa,pk,kn,hd,vf,F,vk,K,role,h,i,k⟩:=h;have h1:=h.boxed (x':={ x with per:=u }) (Only.setCell (S:=fun q=>q=b) (Only.refl _ w) (p:=⟨b,9,none⟩) rfl _) (h.sb.nb.set _ _) rfl rfl rfl (h.sb.bx.set9 u) (fun k hk=>cell_other _ (.inr (by omega)));have h2:=h1.boxed (x':=paceTo x u t) (Only.setCell (S:=fun q=>q=b) (Only.refl _ _) (p:=⟨b,10,none⟩) rfl _) (h1.sb.nb.set _ _) rfl rfl rfl (h1.sb.bx.set10 t) (fun k hk=>cell_other _ (.inr (by omega)));exact⟨ar,kr,a4,n4,k4,a8,m8,k8,br,cB,cO,bn,pb,pa,pk,kn,hd,vf,F,vk,K,role,h2,i.alike (SameSt.cells rfl) rfl rfl,k⟩
theorem SOq.boxN[Inhabited ProtD]{C B:Nat}{w:World}{b:Nat}{x:Hp}(h:SOq C B w b x):(∃v,w.cell? ⟨b,9,none⟩=some v)∧(∃v,w.cell? ⟨b,10,none⟩=some v)∧(∀j,w.frozen? ⟨b,j,none⟩=false)∧B≤b∧b<w.heap.size:=by
 obtain⟨ar,kr,a4,n4,k4,a8,m8,k8,br,cB,cO,bn,pb,pa,pk,kn,hd,vf,F,vk,K,role,h,i,k⟩:=h;obtain⟨c0,c1,c2,c3,c4,c5,c6,c7,c8,c9,c10,c11,c12⟩:=h.sb.bx;exact⟨⟨_,c9⟩,⟨_,c10⟩,h.sb.nb.2,h.sb.lo.1,h.sb.nb.1⟩
theorem SOq.wide[Inhabited ProtD]{C D B:Nat}{w:World}{b:Nat}{x:Hp}(h:SOq C B w b x)(hd:C≤D):SOq D B w b x:=by
 obtain⟨ar,kr,a4,n4,k4,a8,m8,k8,br,cB,cO,bn,pb,pa,pk,kn,hd,vf,F,vk,K,role,h,i,k⟩:=h;exact⟨ar,kr,a4,n4,k4,a8,m8,k8,br,cB,cO,bn,pb,pa,pk,kn,hd,vf,F,vk,K,role,h,i.wide (by assumption),k⟩
theorem begin_any[Inhabited ProtD]{C B:Nat}{w:World}{b:Nat}{x:Hp}(h:SOq C B w b x)(hp:x.phase=0)(a:World)(ha:a.heap.size≤B)(hx:Ext a w):
  Calls Tryz.prog 143 #[.pointer (some ⟨b,0,none⟩)] w fun e w'=>e=.returned (nowV 1 b)∧Hid (SOq (C+16000) B w' b (toPh x 1 0))∧Ext a w':=by
 obtain⟨ar,kr,a4,n4,k4,a8,m8,k8,br,cB,cO,bn,pb,pa,pk,kn,hd,vf,F,vk,K,role,h,i,k⟩:=h;refine(turn_low h 0 hp rfl rfl (by omega) a ha hx).mono ?_;rintro e w' ⟨rfl,h2,x2⟩;exact⟨rfl,⟨ar,kr,a4,n4,k4,a8,m8,k8,br,cB,cO,bn,pb,pa,pk,kn,hd,vf,F,vk,K,role,unhide h2,inv0 i hp,k⟩,x2⟩
theorem finish_any[Inhabited ProtD]{C B:Nat}{w:World}{b:Nat}{x:Hp}(h:SOq C B w b x)(hC:C≤1000000000)(s:Snd x)(a:World)(ha:a.heap.size≤B)(hx:Ext a w):
  Calls Tryz.prog 85 #[.pointer (some ⟨b,0,none⟩)] w fun e w'=>∃k:Nat,e=.returned (.int .i64 k)∧Hid (EndIs x k)∧Hid (SOq C B w' b (itU k x))∧Ext a w':=by
 have Q:=hide (work_any 9223372036854775807 h hC s a ha hx);have S:=hide s;clear h s;go_enter Tryz.func85,Tryz.ntmps85;go_wp2_with fail;refine(unhide Q).mono ?_;rintro e w1 ⟨k,rfl,st,h1,x1⟩
 have E:=hide (show EndIs x k by
  obtain⟨r,_,e⟩:=unhide st;refine⟨?_,r⟩;rcases e with e | e
  ·have:=r.le (unhide S);omega
  ·exact e)
 clear st Q;go_wp2_with fail;go_ret;exact⟨k,rfl,unhide E,unhide h1,x1⟩
def EndH(x:Hp)(y:Hp):Prop:=∃k,EndIs x k∧y=itU k x
theorem EndH.snd{x y:Hp}(s:Snd x)(h:EndH x y):Snd y∧y.phase=0:=by
 obtain⟨k,a,b⟩:=h;rw[b];exact⟨s.itU k,a.1⟩
theorem round_any[Inhabited ProtD]{C B:Nat}{w:World}{b:Nat}{x:Hp}(h:SOq C B w b x)(hC:C+16000≤1000000000)(s:Snd x)(a:World)(ha:a.heap.size≤B)(hx:Ext a w):
  Calls Tryz.prog 81 #[.pointer (some ⟨b,0,none⟩)] w fun e w'=>∃y z,e=.returned (.tuple #[])∧Hid (EndH x y∧EndH (toPh y 1 0) z)∧Hid (SOq (C+16000) B w' b z)∧Ext a w':=by
 have H:=hide h;have S:=hide s;clear h s;go_enter Tryz.func81,Tryz.ntmps81;go_wp2_with fail;refine(finish_any (unhide H) (by omega) (unhide S) a ha hx).mono ?_;rintro e w1 ⟨k,rfl,he,h1,x1⟩;obtain⟨y,hy⟩:∃y,y=itU k x:=⟨_,rfl⟩;rw[←hy] at h1;have EY:=hide (show EndH x y from⟨k,unhide he,hy⟩);clear he hy;go_wp2_with fail;refine(begin_any (unhide h1) ((unhide EY).snd (unhide S)).2 a ha x1).mono ?_;rintro e w2 ⟨rfl,h2,x2⟩;go_wp2_with fail;refine(finish_any (unhide h2) hC (((unhide EY).snd (unhide S)).1.begin ((unhide EY).snd (unhide S)).2) a ha x2).mono ?_;rintro e w3 ⟨k2,rfl,he,h3,x3⟩;have EZ:=hide (show EndH (toPh y 1 0) (itU k2 (toPh y 1 0)) from⟨k2,unhide he,rfl⟩);clear he;go_wp2_with fail
 go_end0
 exact⟨y,_,rfl,⟨unhide EY,unhide EZ⟩,unhide h3,x3⟩
theorem shadeW_born(x:Hp)(y:Wd):(shadeW x y).born=x.born:=by
 unfold shadeW
 split
 ·exact(shade_same x _).2.2.1
 ·rfl
theorem fold_born:∀(ys:List Wd) (z:Hp),(ys.foldl shadeW z).born=z.born
 | [],_=>rfl
 | y::ys,z=>(fold_born ys (shadeW z y)).trans (shadeW_born z y)
theorem uborn1(x:Hp):(unit1 x).born=x.born:=by
 unfold unit1
 split
 ·rfl
 ·by_cases e:spkB (x.c x.hand.toNat)=true
  ·simp only [if_pos e];exact(shade_same x _).2.2.1
  ·simp only [if_neg e]
theorem uborn2(x:Hp):(unit2 x).born=x.born:=by
 unfold unit2
 split
 ·split
  ·exact(shadeW_born _ _).trans (shadeW_born _ _)
  ·rfl
 ·split
  ·exact fold_born x.regs x
  ·exact fold_born x.regs x
theorem uborn3(x:Hp):(unit3 x).born=x.born:=by
 unfold unit3
 split
 ·rfl
 ·split <;> rfl
theorem uborn4(x:Hp):(unit4 x).born=x.born:=by
 unfold unit4
 split <;> rfl
theorem uborn5(x:Hp):(unit5 x).born=x.born:=by
 unfold unit5
 split
 ·rfl
 ·split <;> rfl
theorem uborn6(x:Hp):(unit6 x).born=x.born:=by
 unfold unit6 dropH
 split
 ·rfl
 ·split <;> rfl
theorem unitH_born(x:Hp):(unitH x).born=x.born:=by
 unfold unitH
 repeat (first | (split) | exact uborn1 x | exact uborn2 x | exact uborn3 x | exact uborn4 x | exact uborn5 x | exact uborn6 x | rfl)
theorem itU_born:∀(k:Nat) (x:Hp),(itU k x).born=x.born
 | 0,_=>rfl
 | k+1,x=>by
  first
   | exact(itU_born k (unitH x)).trans (unitH_born x)
   | exact(unitH_born (itU k x)).trans (itU_born k x)
theorem endH_born{x y:Hp}(h:endH x y):y.born=x.born:=by
 obtain⟨k,_,e⟩:=h;rw[e];exact itU_born k x
theorem RdIs.bornE{x y:Hp}(h:RdIs x y):y.born=x.born:=by
 obtain⟨z,a,b⟩:=h;exact(endH_born b).trans (show z.born=x.born from endH_born a)
theorem RoomIs.bornE{x y:Hp}{u:Nat}(h:RoomIs x u y):y.born=x.born:=by
 rcases h with h | h
 ·rw[h.2]
 ·exact h.2.bornE
theorem MakeIs.snd{x:Hp}{a b c:Nat}{y:Hp}{cd nm:Int}(s:Snd x)(hb:b≤255)(hc:c≤200)(h:MakeIs x a b c y cd nm):Snd y:=by
 rcases h.2 with h | ⟨nb,z,hz,h | h⟩
 ·rw[h.2.1];exact s
 ·rw[h.2.1];exact hz.snd s
 ·have sz:=hz.snd s;have eb:=hz.bornE;have b1:=s.r1.born;have hu:z.used+(1+c)≤z.room:=by have e:=h.1;unfold fitsB at e;have:=of_decide_eq_true e;omega
  obtain⟨s1,s2,s3,s4⟩:=sz.make b c (by omega) hc (by omega) hu;refine h.2.2.snd (s1.regTo a ⟨2,0,fstFree z⟩ ⟨.inr (.inr ⟨rfl,rfl,by show(0:Int)≤(fstFree z:Nat);omega,by show((fstFree z:Nat):Int)<_;omega⟩),fun _=>.inr ⟨s2,s4⟩⟩)
theorem way_3[Inhabited ProtD]{C B:Nat}{w:World}{b bd:Nat}{x:Hp}{a p c:Nat}{n:Int}{rv:Value}(h:SOq C B w b x)(s:Snd x)(hd:(default:ProtD).z bd=some (deedO b 3 a p c n rv))(ha:a<16)(v:World)(hv:v.heap.size≤B)(hx:Ext v w):
  Calls Tryz.prog 294 #[.pointer (some ⟨bd,0,none⟩)] w fun e w'=>WayPost C B b x a p c n 3 v e w':=by
 have D:=hide (Deed.of (h.obj hd));obtain⟨br,kr,hr⟩:=h.regs s;have R:=hide hr;obtain⟨d0,d1,d2,d3,d4,d5,d6⟩:=unhide D;obtain⟨r0,r1,r2⟩:=hr.r a ha;have f:=hr.f;have hb1:br<w.heap.size:=cell_lt r0;have hbB:=hr.lo.1;have hdw:bd<w.heap.size:=cell_lt d0;have QA:=hide (fun(W:World) (xW:Ext w W)=>dA_any ((unhide R).ext xW) ((unhide D).ext xW) ha);have FN:=hide (show ∀W,Ext w W→SOq (C+64000) B (wordO W br (a*3) Wd0) b (regTo x a Wd0)∧Ext v (wordO W br (a*3) Wd0) from fun W xW=>⟨(hr.set W a Wd0 xW ha).wide (by omega),(wordO_only W br (a*3) Wd0).ext (hx.trans xW) (fun q hq e=>by omega)⟩);unfold wordO Wd0 at FN;clear h s hd hr;go_enter Tryz.func294,Tryz.ntmps294;go_wp2_with fail;refine(unhide QA _ (Ext.refl w)).mono ?_;rintro e w5 ⟨rfl,x5⟩;have xw5:=x5;have k0:=xw5.keep r0;have k1:=xw5.keep r1;have k2:=xw5.keep r2;have kf:=fun m=>((bcell xw5).2 br m hb1).trans (f m)
 have kd0:=xw5.keep d0;have kd5:=xw5.keep d5;have hb5:br<w5.heap.size:=cell_lt k0;have hd5:bd<w5.heap.size:=cell_lt kd0;have F5:=hide (unhide FN w5 xw5);go_wp2_with fail;go_ret2;exact⟨_,0,0,rfl,⟨rfl,rfl,rfl⟩,(unhide F5).1,(unhide F5).2⟩
end Go.Proofs.YtddkhnclmeikfaaGreat
