import Derived.Test.YtnegjhddmfiefaaGreatDoorRw
import Derived.Test.YtnegjhddmfiefaaGreatDoorImpP
import Derived.Test.YtnegjhddmfiefaaGreatDoorSpecF
import Derived.Deep.DeepCutAuto
set_option maxRecDepth 100000
set_option maxHeartbeats 2000000
namespace Go.Proofs.YtnegjhddmfiefaaGreatDoor
open Go.RowKit
attribute [local go_sem ↓] Go.wp_at_zero Go.wp_at_succ
def SK(c:Cl):Prop:=c.weak≠1∧c.weak≠3
def SV(c:Cl):Prop:=c.weak≠2∧c.weak≠3
def Held(x:Hp)(i:Nat):Prop:=∀P:Nat→Prop,(∀k (h:k<x.regs.length),x.regs[k].k=2→P (tgt x x.regs[k]))→(∀i,i<x.cells.length→(x.c i).last=2→P i)→
 (∀j p,P j→p<(x.c j).prs.length→SK (x.c j)→((x.c j).p p).key.k=2→P (tgt x ((x.c j).p p).key))→
 (∀j p,P j→p<(x.c j).prs.length→SV (x.c j)→(((x.c j).p p).key.k=2→P (tgt x ((x.c j).p p).key))→((x.c j).p p).val.k=2→P (tgt x ((x.c j).p p).val))→P i
theorem Held.reg{x:Hp}(k:Nat)(h:k<x.regs.length)(hk:x.regs[k].k=2):Held x (tgt x x.regs[k]):=fun _ a _ _ _=>a k h hk
theorem Held.due{x:Hp}(i:Nat)(hi:i<x.cells.length)(h:(x.c i).last=2):Held x i:=fun _ _ b _ _=>b i hi h
theorem Held.key{x:Hp}(j p:Nat)(h:Held x j)(hp:p<(x.c j).prs.length)(hs:SK (x.c j))(hk:((x.c j).p p).key.k=2):Held x (tgt x ((x.c j).p p).key):=fun P a b c d=>c j p (h P a b c d) hp hs hk
theorem Held.val{x:Hp}(j p:Nat)(h:Held x j)(hp:p<(x.c j).prs.length)(hs:SV (x.c j))(hh:((x.c j).p p).key.k=2→Held x (tgt x ((x.c j).p p).key))(hk:((x.c j).p p).val.k=2):Held x (tgt x ((x.c j).p p).val):=fun P a b c d=>d j p (h P a b c d) hp hs (fun e=>hh e P a b c d) hk
theorem Held.reached{x:Hp}(r2:R2 x){i:Nat}(h:Held x i):Reached x i:=
 h (Reached x) (fun k h hk=>Reached.reg k h hk) (fun i hi hl=>Reached.last i hi (speaks_used r2 i hi (.inr hl)) (.inr hl)) (fun j p ih hp _ hk=>Reached.key j p ih hp hk) (fun j p ih hp _ _ hk=>Reached.val j p ih hp hk)
theorem Held.good{x:Hp}(r2:R2 x)(r4:R4 x){i:Nat}(h:Held x i):Good x i:=(h.reached r2).good r2 r4
def OnlyH(x:Hp)(L:List Int):Prop:=∀z,z∈L→∃i:Nat,z=(i:Int)∧Held x i
theorem OnlyH.add{x:Hp}{y:Wd}{L L':List Int}(h:OnlyH x L)(a:Add x y L L')(hy:y.k=2→Held x (tgt x y)):OnlyH x L':=fun z hz=>by
 rcases a.new hz with q | ⟨k,e⟩
 ·exact h z q
 ·exact⟨_,e,hy k⟩
def DueIn(x:Hp)(k:Nat)(L:List Int):Prop:=∀i,i<k→i<x.cells.length→(x.c i).last=2→(i:Int)∈L
def PairsH(x:Hp)(L0:List Int)(j k:Nat)(T:List Int):Prop:=∀p,p<k→(SK (x.c j)→((x.c j).p p).key.k=2→(tgt x ((x.c j).p p).key:Int)∈T)∧(SV (x.c j)→(((x.c j).p p).key.k=2→(tgt x ((x.c j).p p).key:Int)∈L0)→((x.c j).p p).val.k=2→(tgt x ((x.c j).p p).val:Int)∈T)
theorem PairsH.mono{x:Hp}{L0:List Int}{j k:Nat}{T T':List Int}(h:PairsH x L0 j k T)(s:∀z,z∈T→z∈T'):PairsH x L0 j k T':=fun p hp=>⟨fun a e=>s _ ((h p hp).1 a e),fun a b e=>s _ ((h p hp).2 a b e)⟩
def ClH(x:Hp)(L0:List Int)(c:Nat)(T:List Int):Prop:=∀q,q<c→PairsH x L0 (it T q).toNat (x.c (it T q).toNat).prs.length T
theorem ClH.add{x:Hp}{L0:List Int}{y:Wd}{c:Nat}{T T':List Int}(h:ClH x L0 c T)(a:Add x y T T')(hc:c≤T.length):ClH x L0 c T':=fun q hq=>by
 obtain⟨R,e⟩:=a.pre;have e2:it T' q=it T q:=by rw[e];exact it_pre (by omega)
 rw[e2];exact(h q hq).mono (fun z hz=>a.sub hz)
structure Pass(x:Hp)(L0:List Int)(c:Nat)(T:List Int):Prop where
 o:OnlyH x T
 r:RegsIn x x.regs.length T
 d:DueIn x x.cells.length T
 e:∃R,T=L0++R
 c:ClH x L0 c T
theorem Pass.add{x:Hp}{L0:List Int}{y:Wd}{c:Nat}{T T':List Int}(h:Pass x L0 c T)(a:Add x y T T')(hc:c≤T.length)(hy:y.k=2→Held x (tgt x y)):Pass x L0 c T':=
 ⟨h.o.add a hy,fun j hj hk e=>a.sub (h.r j hj hk e),fun i hi hn e=>a.sub (h.d i hi hn e),by
  obtain⟨R,e⟩:=h.e;obtain⟨R',e'⟩:=a.pre;exact⟨R++R',by rw[e',e,List.append_assoc]⟩,h.c.add a hc⟩
theorem Pass.step{x:Hp}{L0:List Int}{c j:Nat}{T:List Int}(h:Pass x L0 c T)(e:it T c=(j:Int))(k:PairsH x L0 j (x.c j).prs.length T):Pass x L0 (c+1) T:=
 ⟨h.o,h.r,h.d,h.e,fun q hq=>by
  by_cases f:q=c
  ·subst f;rw[e];simpa using k
  ·exact h.c q (by omega)⟩
structure Rest(x:Hp)(n:Int)(L:List Int):Prop where
 o:OnlyH x L
 r:RegsIn x x.regs.length L
 d:DueIn x x.cells.length L
 b:-1≤n∧n≤L.length
 c:n=L.length→ClH x L L.length L
theorem Rest.begin{x:Hp}{n:Int}{L:List Int}(h:Rest x n L):Pass x L 0 L:=⟨h.o,h.r,h.d,⟨[],by simp⟩,fun q hq=>by omega⟩
theorem Pass.rest{x:Hp}{L0 T:List Int}(h:Pass x L0 T.length T):Rest x L0.length T:=by
 obtain⟨R,e⟩:=h.e;refine⟨h.o,h.r,h.d,⟨by omega,by rw[e];simp;omega⟩,fun f=>?_⟩
 have:R=[]:=by
  have:(T.length:Int)=L0.length+R.length:=by rw[e];simp
  exact List.length_eq_zero_iff.1 (by omega)
 have e2:T=L0:=by rw[e,this];simp
 have:=h.c;rw[←e2] at this;exact this
theorem Rest.done{x:Hp}{L:List Int}(h:Rest x L.length L)(i:Nat):(i:Int)∈L↔Held x i:=by
 constructor
 ·intro q;obtain⟨j,e,hj⟩:=h.o _ q;have:i=j:=by omega
  rw[this];exact hj
 ·intro q
  have cl:∀j:Nat,(j:Int)∈L→PairsH x L j (x.c j).prs.length L:=fun j hj=>by
   obtain⟨q,hq,e⟩:=List.getElem_of_mem hj;have:=h.c rfl q hq;rw[←it_eq L q hq,e] at this
   simpa using this
  exact q (fun i=>(i:Int)∈L) (fun k hk e=>h.r k hk hk e) (fun i hi e=>h.d i hi hi e) (fun j p ih hp hs hk=>(cl j ih p hp).1 hs hk) (fun j p ih hp hs hh hk=>(cl j ih p hp).2 hs hh hk)
def lostB(x:Hp)(H:Nat→Bool)(y:Wd):Bool:=(resW x y).k == 2 && !H (resW x y).a.toNat
def wkB(c:Cl):Bool:=c.weak == 1 || c.weak == 3
def wvB(c:Cl):Bool:=c.weak == 2 || c.weak == 3
def goB(x:Hp)(H:Nat→Bool)(c:Cl)(p:Pr):Bool:=(wkB c && lostB x H p.key) || (wvB c && lostB x H p.val)
def stay(x:Hp)(H:Nat→Bool)(c:Cl)(l:List Pr):List Pr:=l.filter (fun p=>!goB x H c p)
def goes(x:Hp)(H:Nat→Bool)(c:Cl)(l:List Pr):Nat:=(l.filter (fun p=>goB x H c p)).length
theorem stay_goes(x:Hp)(H:Nat→Bool)(c:Cl)(l:List Pr):(stay x H c l).length+goes x H c l=l.length:=by
 unfold stay goes
 induction l with
 | nil=>rfl
 | cons p l ih=>
  cases h:goB x H c p <;> simp [h] <;> omega
def scanI(x:Hp):Int:=if x.phase=2∧0<x.gray.length then x.gray.getD 0 0 else if x.phase=5∧x.hand<x.cells.length then x.hand else -1
def letC(x:Hp)(H:Nat→Bool)(c:Cl):Cl:={ c with prs:=stay x H c c.prs }
def letSub(x:Hp)(H:Nat→Bool)(i:Nat)(s:Int):Int:=if scanI x=(i:Int) then s-goes x H (x.c i) ((x.c i).prs.take s.toNat) else s
def cutTo(x:Hp)(H:Nat→Bool):Nat→Hp
 | 0=>x
 | k+1=>if H k=true then { cutTo x H k with cells:=(cutTo x H k).cells.set k (letC x H (x.c k)),used:=(cutTo x H k).used-goes x H (x.c k) (x.c k).prs,sub:=letSub x H k (cutTo x H k).sub } else cutTo x H k
def goneTo(x:Hp)(H:Nat→Bool):Nat→Nat
 | 0=>0
 | k+1=>if H k=true then goneTo x H k+goes x H (x.c k) (x.c k).prs else goneTo x H k
def dueB(x:Hp)(H:Nat→Bool)(i:Nat):Bool:=!H i && (x.c i).last == 1
def dueC(c:Cl):Cl:={ c with last:=2 }
def dueTo(x z:Hp)(H:Nat→Bool):Nat→Hp
 | 0=>z
 | k+1=>if dueB x H k=true then { dueTo x z H k with cells:=(dueTo x z H k).cells.set k (dueC (x.c k)) } else dueTo x z H k
def dueN(x:Hp)(H:Nat→Bool):Nat→Nat
 | 0=>0
 | k+1=>if dueB x H k=true then dueN x H k+1 else dueN x H k
def settleH(x:Hp)(H:Nat→Bool):Hp:=dueTo x (cutTo x H x.cells.length) H x.cells.length
def stlC(x:Hp)(H:Nat→Bool)(i:Nat):Cl:=if H i=true then letC x H (x.c i) else if (x.c i).last=1 then dueC (x.c i) else x.c i
theorem cutTo_len(x:Hp)(H:Nat→Bool):∀k,(cutTo x H k).cells.length=x.cells.length
 | 0=>rfl
 | k+1=>by
  unfold cutTo
  split
  ·simp [cutTo_len x H k]
  ·exact cutTo_len x H k
theorem cutTo_c(x:Hp)(H:Nat→Bool):∀k,k≤x.cells.length→∀q,(cutTo x H k).c q=if q<k∧H q=true then letC x H (x.c q) else x.c q
 | 0,_,q=>by rw[if_neg (by omega)];rfl
 | k+1,hk,q=>by
  have ih:=cutTo_c x H k (by omega) q;unfold cutTo;by_cases h:H k=true
  ·rw[if_pos h];have:=Hp.c_set (cutTo x H k) k (letC x H (x.c k)) (by rw[cutTo_len];omega) q;have e:({ cutTo x H k with cells:=(cutTo x H k).cells.set k (letC x H (x.c k)),used:=(cutTo x H k).used-goes x H (x.c k) (x.c k).prs,sub:=letSub x H k (cutTo x H k).sub }:Hp).c q=({ cutTo x H k with cells:=(cutTo x H k).cells.set k (letC x H (x.c k)) }:Hp).c q:=rfl;rw[e,this];by_cases eq:q=k
   ·rw[if_pos eq,eq,if_pos ⟨by omega,h⟩]
   ·rw[if_neg eq,ih];by_cases h2:q<k∧H q=true
    ·rw[if_pos h2,if_pos ⟨by omega,h2.2⟩]
    ·rw[if_neg h2,if_neg (fun h3=>h2 ⟨by omega,h3.2⟩)]
  ·rw[if_neg h,ih];by_cases h2:q<k∧H q=true
   ·rw[if_pos h2,if_pos ⟨by omega,h2.2⟩]
   ·rw[if_neg h2,if_neg (fun h3=>by
     by_cases eq:q=k
     ·rw[eq] at h3;exact h h3.2
     ·exact h2 ⟨by omega,h3.2⟩)]
def DueTo(x:Hp)(k:Nat)(r:Int):Prop:=(r = -1∧∀i,i<k→(x.c i).last≠2)∨∃i:Nat,r=(i:Int)∧i<k∧(x.c i).last=2∧∀j,j<k→(x.c j).last=2→(x.c i).born≤(x.c j).born
theorem DueTo.no{x:Hp}{k:Nat}{r:Int}(h:DueTo x k r)(hk:(x.c k).last≠2):DueTo x (k+1) r:=by
 rcases h with⟨h,n⟩ | ⟨i,h,hi,di,mi⟩
 ·exact .inl ⟨h,fun j hj=>by rcases (by omega:j<k∨j=k) with q | q;exact n j q;subst q;exact hk⟩
 ·exact .inr ⟨i,h,by omega,di,fun j hj dj=>by rcases (by omega:j<k∨j=k) with q | q;exact mi j q dj;subst q;exact(hk dj).elim⟩
theorem DueTo.first{x:Hp}{k:Nat}(h:DueTo x k (-1))(hk:(x.c k).last=2):DueTo x (k+1) k:=by
 rcases h with⟨h,n⟩ | ⟨i,h,hi,di,mi⟩
 ·exact .inr ⟨k,rfl,by omega,hk,fun j hj dj=>by rcases (by omega:j<k∨j=k) with q | q;exact(n j q dj).elim;subst q;omega⟩
 ·omega
theorem DueTo.less{x:Hp}{k i:Nat}(h:DueTo x k i)(hk:(x.c k).last=2)(hl:(x.c k).born<(x.c i).born):DueTo x (k+1) k:=by
 rcases h with⟨h,n⟩ | ⟨i',h,hi,di,mi⟩
 ·omega
 ·obtain rfl:i'=i:=by omega
  exact .inr ⟨k,rfl,by omega,hk,fun j hj dj=>by rcases (by omega:j<k∨j=k) with q | q;have:=mi j q dj;omega;subst q;omega⟩
theorem DueTo.more{x:Hp}{k i:Nat}(h:DueTo x k i)(hl:(x.c i).born≤(x.c k).born):DueTo x (k+1) i:=by
 rcases h with⟨h,n⟩ | ⟨i',h,hi,di,mi⟩
 ·omega
 ·obtain rfl:i'=i:=by omega
  exact .inr ⟨i',rfl,by omega,di,fun j hj dj=>by rcases (by omega:j<k∨j=k) with q | q;exact mi j q dj;subst q;exact hl⟩
theorem DueTo.form{x:Hp}{k:Nat}{r:Int}(h:DueTo x k r):r = -1∨∃i:Nat,r=(i:Int)∧i<k:=by
 rcases h with⟨h,_⟩ | ⟨i,h,hi,_⟩
 ·exact .inl h
 ·exact .inr ⟨i,h,hi⟩
def sumTo(x:Hp)(p:Nat→Bool):Nat→Nat
 | 0=>0
 | k+1=>sumTo x p k+(if p k=true then 1+(x.c k).prs.length else 0)
theorem sumTo_le{x:Hp}{p:Nat→Bool}(h:∀i,i<x.cells.length→(x.c i).prs.length≤200)(k:Nat)(hk:k≤x.cells.length):sumTo x p k≤201*k:=by
 induction k with
 | zero=>simp [sumTo]
 | succ k ih=>
  have:=h k (by omega);have:=ih (by omega);simp only [sumTo]
  split <;> omega
theorem l2sum_any(x:Hp)(b bs:Nat)(p:Nat→Bool)(w:World){ar:Option Addr}{kr:Nat}{ac:Option Addr}{kc:Nat}{ag:Option Addr}{kg:Nat}(h:HAt w b x ar kr ac kc ag kg)(hs:∀i,i<x.cells.length→w.cell? ⟨bs,i,none⟩=some (.bool (p i)))(hn8:x.cells.length≤8000)(h200:∀i,i<x.cells.length→(x.c i).prs.length≤200):
  Calls Tryz.prog 182 #[.pointer (some ⟨b,0,none⟩),.slice (some ⟨bs,0,none⟩) x.cells.length x.cells.length] w fun e w'=>e=.returned (.int .i64 (sumTo x p x.cells.length:Int))∧w'=w:=by
 have HS:=hide hs;have HH:=hide h;have c4:=h.c4;have HL:=hide (fun k hk=>sumTo_le (p:=p) h200 k hk);clear hs h;go_enter Tryz.func182,Tryz.ntmps182;go_wp2_with fail
 go_loop [5,10] (fun n i=>∃(k u:Nat),k≤x.cells.length∧i=.int .i64 k∧n=.int .i64 u∧Hid (u=sumTo x p k)) (fun _ i=>x.cells.length-(intOf i).toNat)
 case atStart=>exact⟨0,0,Nat.zero_le _,rfl,rfl,rfl⟩
 case round=>
  obtain⟨k,u,hk,rfl,rfl,hu⟩:=hrel;have hul:u≤201*k:=by have:=unhide hu;rw[this];exact unhide HL k hk
  by_cases hlt:k<x.cells.length
  ·have hc:=unhide HS k hlt;obtain⟨b',o,ap,kp,rfl,p0,p1,p2,p3,p4,p5,p6,p7,lp,P⟩:=(unhide HH).cell k hlt;have hl:=h200 k hlt;have hk0:(0:Int)≤(k:Int):=by omega
   have hk1:(k:Int)<(x.cells.length:Int):=by omega
   clear P p0 p1 p2 p3 p4 p5 p6;cases tp:p k
   ·rw[tp] at hc;have U2:=hide (show u=sumTo x p (k+1) by have:=unhide hu;simp only [sumTo,tp];simp;exact this);go_wp2_with fail
    go_round
    case rel=>exact⟨k+1,u,by omega,by go_num,rfl,unhide U2⟩
    case measure=>simp [intOf];omega
   ·rw[tp] at hc;have U2:=hide (show u+(1+(x.c k).prs.length)=sumTo x p (k+1) by have:=unhide hu;simp only [sumTo,tp];simp;omega);go_wp2_with fail
    go_round
    case rel=>exact⟨k+1,u+(1+(x.c k).prs.length),by omega,by go_num,by go_num,unhide U2⟩
    case measure=>simp [intOf];omega
  ·have hk2:k=x.cells.length:=by omega
   have U:=hide (show u=sumTo x p x.cells.length by have:=unhide hu;rw[hk2] at this;exact this);clear hk2;go_wp2_with fail;go_ret;exact⟨by rw[←unhide U];rfl,rfl⟩
def LiveIs(x:Hp)(r:Nat):Prop:=(OkIs x 0∧∃p:Nat→Bool,(∀i,p i=true↔Reached x i)∧r=sumTo x p x.cells.length)∨(¬OkIs x 0∧r=0)
theorem l2live_any(x:Hp)(b:Nat)(w:World){ar:Option Addr}{kr:Nat}{ac:Option Addr}{kc:Nat}{ag:Option Addr}{kg:Nat}(h:HAt w b x ar kr ac kc ag kg)(ok:OkIs x 0):
  Calls Tryz.prog 184 #[.pointer (some ⟨b,0,none⟩)] w fun e w'=>∃r:Nat,Hid (e=.returned (.int .i64 (r:Int)))∧LiveIs x r∧Ext w w':=by
 have HH:=hide h;have OK:=hide ok;clear h ok;go_enter Tryz.func184,Tryz.ntmps184;go_wp2_with fail;refine(l2reach_any x b _ (unhide HH) (unhide OK).all.2.1 (unhide OK).all.2.2.2 (unhide OK).n8).mono ?_;rintro e w1 ⟨v,L,rfl,hs,hr,hq⟩;have HS:=hide hs;clear hs;go_wp2_with fail;refine(l2sum_any x b w.heap.size (fun i=>decide ((i:Int)∈L)) _ ((unhide HH).ext hq) (unhide HS).s (unhide OK).n8 (unhide OK).p200).mono ?_;rintro e w2 ⟨rfl,rfl⟩;go_wp2_with fail;go_ret;exact⟨_,rfl,.inl ⟨unhide OK,_,fun i=>by simpa using unhide hr i,rfl⟩,hq⟩
end Go.Proofs.YtnegjhddmfiefaaGreatDoor
