import Derived.Test.YtddkhnclmeikfaaGreatBo
import Derived.Test.YtddkhnclmeikfaaGreatGg0
import Derived.Test.YtddkhnclmeikfaaGreatGw
import Derived.Test.YtddkhnclmeikfaaGreatImpP
set_option maxRecDepth 100000
set_option maxHeartbeats 40000000
namespace Go.Proofs.YtddkhnclmeikfaaGreat
open Go.RowKit
attribute [local go_sem ↓] Go.wp_at_zero Go.wp_at_succ
def CapAt(w:World)(x:Hp)(ac:Option Addr):Prop:=∀i,i<x.cells.length→∀bc oc ad l c,ac=some ⟨bc,oc,none⟩→w.cell? ⟨bc,oc+i*8+7,none⟩=some (.slice ad l c)→l≤c∨l=0
theorem CapAt.ext{w w':World}{x:Hp}{ac:Option Addr}{b:Nat}{ar:Option Addr}{kr kc:Nat}{ag:Option Addr}{kg:Nat}(h:CapAt w x ac)(hh:HAt w b x ar kr ac kc ag kg)(e:Ext w w'):CapAt w' x ac:=fun i hi bc oc ad l c ha hc=>by
 obtain⟨b2,o2,ap,kp,e2,C⟩:=hh.cell i hi;rw[ha] at e2;cases e2;have:=(C.ext e).p7;rw[this] at hc;cases hc;exact h i hi _ _ _ _ _ ha C.p7
theorem speaks_used{x:Hp}(r2:R2 x)(i:Nat)(hi:i<x.cells.length)(h:Speaks (x.c i)):(x.c i).st=1:=by
 have:=r2.1 i hi;unfold Speaks at h;unfold CellOk MovedOk Bare at this;omega
def limB(x:Hp):Bool:=withinB x.room 1 4000 && ((x.regs.length:Int) == 16) && decide ((x.cells.length:Int)≤2*x.room) && decide ((x.gray.length:Int)≤(x.cells.length:Int)) && withinB x.born 0 1000000000 && withinB x.rounds 0 1000000000 && withinB x.forced 0 1000000000 && withinB x.per 0 64 && withinB x.start 0 4000 && withinB x.phase 0 6 && withinB x.hand 0 (x.cells.length:Int) && withinB x.sub 0 200
theorem limB_iff(x:Hp):limB x=true↔R1 x:=by
 simp only [limB,withinB,Bool.and_eq_true,decide_eq_true_eq,beq_iff_eq];constructor
 ·rintro h;exact⟨by omega,by omega,by omega,by omega,by omega,by omega,by omega,by omega,by omega,by omega,by omega,by omega⟩
 ·rintro⟨_,_,_,_,_,_,_,_,_,_,_,_⟩;omega
theorem limitsKept_any(x:Hp)(b:Nat)(w:World){ar:Option Addr}{kr:Nat}{ac:Option Addr}{kc:Nat}{ag:Option Addr}{kg:Nat}(h:HAt w b x ar kr ac kc ag kg):
  Calls Tryz.prog 106 #[.pointer (some ⟨b,0,none⟩)] w fun e w'=>∃r:Bool,Hid (e=.returned (.bool r))∧(r=true↔R1 x)∧Ext w w':=by
 have key:∀r,limB x=r→Calls Tryz.prog 106 #[.pointer (some ⟨b,0,none⟩)] w fun e w'=>e=.returned (.bool r)∧Ext w w':=by
  intro r hr;obtain⟨c0,c1,c2,c3,c4,c5,c6,c7,c8,c9,c10,c11,c12,lr,lc,lg,R,C,G⟩:=h;unfold limB at hr;cases q0:withinB x.room 1 4000;rotate_left;have p0:=withinB_true q0;have p1:(0:Int)≤x.room:=by omega
  cases q1:((x.regs.length:Int) == 16);rotate_left;have q1b:(x.regs.length:Int)=16:=by simpa using q1
  cases q2:decide ((x.cells.length:Int)≤2*x.room);rotate_left;have q2b:(x.cells.length:Int)≤2*x.room:=of_decide_eq_true q2;cases q3:decide ((x.gray.length:Int)≤(x.cells.length:Int));rotate_left;have q3b:x.gray.length≤x.cells.length:=by have:=of_decide_eq_true q3;omega
  cases q4:withinB x.born 0 1000000000;rotate_left;cases q5:withinB x.rounds 0 1000000000;rotate_left;cases q6:withinB x.forced 0 1000000000;rotate_left;cases q7:withinB x.per 0 64;rotate_left;cases q8:withinB x.start 0 4000;rotate_left;cases q9:withinB x.phase 0 6;rotate_left;cases q10:withinB x.hand 0 (x.cells.length:Int);rotate_left;cases q11:withinB x.sub 0 200
  all_goals
   simp only [*,Bool.false_and,Bool.and_false,Bool.and_true] at hr;subst hr
   try have q3n:decide (x.gray.length≤x.cells.length)=false:=decide_eq_false (by have:=of_decide_eq_false q3;omega)
   as_aux_lemma=>
    go_enter Tryz.func106,Tryz.ntmps106;go_wp2_with fail;simp only [List.append];refine wp_region_quiet_lit (by kernel_rfl) lim_lex ?_
    repeat (go_big_quiet_step ((go_at_call 78;first | (refine Calls.quiet_of_same (within_is _ _ _ true ?_ _);assumption) | (refine Calls.quiet_of_same (within_is _ _ _ false ?_ _);assumption))))
    refine wpQuiet_nil ?_;intro _ hw';obtain⟨nq,hw''⟩:=hw';subst hw''
    go_wp2
    go_ret;exact⟨rfl,Ext.drewN (Ext.refl w) _⟩
 exact(key _ rfl).mono fun _ _ h=>⟨_,h.1,limB_iff x,h.2⟩
structure Wr(S:Nat→Prop)(w w':World):Prop where
 o:Only S w w'
 op:∀b k,Open w b k→Open w' b k
theorem Wr.refl(S:Nat→Prop)(w:World):Wr S w w:=⟨Only.refl _ _,fun _ _ h=>h⟩
theorem Wr.trans{S:Nat→Prop}{a b c:World}(h:Wr S a b)(k:Wr S b c):Wr S a c:=⟨h.o.trans k.o,fun b' i q=>k.op b' i (h.op b' i q)⟩
theorem Wr.set{S:Nat→Prop}{a w:World}(h:Wr S a w){p:Addr}(hp:S p.block)(u:Value):Wr S a (w.setCell p u):=⟨h.o.setCell hp u,fun b k q=>(h.op b k q).set _ _⟩
theorem Wr.mono{S T:Nat→Prop}{w w':World}(h:Wr S w w')(hST:∀k,S k→T k):Wr T w w':=⟨h.o.mono hST,h.op⟩
def OpSl(S:Nat→Prop)(w:World)(sz:Nat)(ad:Option Addr)(n:Nat):Prop:=0<n→∃b o,ad=some ⟨b,o,none⟩∧S b∧∀j,j<sz*n→Open w b (o+j)
theorem OpSl.wr{S T:Nat→Prop}{w w':World}{sz n:Nat}{ad:Option Addr}(h:OpSl S w sz ad n)(k:Wr T w w'):OpSl S w' sz ad n:=fun h0=>by
 obtain⟨b,o,e,s,q⟩:=h h0;exact⟨b,o,e,s,fun j hj=>k.op _ _ (q j hj)⟩
theorem OpSl.ext{S:Nat→Prop}{w w':World}{sz n:Nat}{ad:Option Addr}(h:OpSl S w sz ad n)(k:Ext w w'):OpSl S w' sz ad n:=fun h0=>by
 obtain⟨b,o,e,s,q⟩:=h h0;exact⟨b,o,e,s,fun j hj=>(q j hj).ext k⟩
def OpC(S:Nat→Prop)(w:World)(ad:Option Addr)(xs:List Cl):Prop:=0<xs.length→∃b o,ad=some ⟨b,o,none⟩∧S b∧∀i (hi:i<xs.length),(∀j,j<7→Open w b (o+i*8+j))∧∃ap kp,w.cell? ⟨b,o+i*8+7,none⟩=some (.slice ap xs[i].prs.length kp)∧OpSl (fun q=>S q∧q≠b) w 6 ap xs[i].prs.length
theorem OpC.ext{S:Nat→Prop}{w w':World}{ad:Option Addr}{xs:List Cl}(h:OpC S w ad xs)(k:Ext w w'):OpC S w' ad xs:=fun h0=>by
 obtain⟨b,o,e,s,q⟩:=h h0;refine⟨b,o,e,s,fun i hi=>⟨fun j hj=>((q i hi).1 j hj).ext k,?_⟩⟩;obtain⟨ap,kp,c,d⟩:=(q i hi).2;exact⟨ap,kp,k.keep c,d.ext k⟩
theorem OpC.wr{S T:Nat→Prop}{w w':World}{ad:Option Addr}{xs:List Cl}(h:OpC S w ad xs)(k:Wr T w w')(hT:∀b o,ad=some ⟨b,o,none⟩→¬T b):OpC S w' ad xs:=fun h0=>by
 obtain⟨b,o,e,s,q⟩:=h h0;refine⟨b,o,e,s,fun i hi=>⟨fun j hj=>k.op _ _ ((q i hi).1 j hj),?_⟩⟩;obtain⟨ap,kp,c,d⟩:=(q i hi).2;exact⟨ap,kp,k.o.keep (hT b o e) c,d.wr k⟩
end Go.Proofs.YtddkhnclmeikfaaGreat
