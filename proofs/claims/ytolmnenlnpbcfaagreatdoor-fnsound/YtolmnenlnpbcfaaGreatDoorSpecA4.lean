import Derived.Test.YtolmnenlnpbcfaaGreatDoorLsB
set_option maxRecDepth 100000
set_option maxHeartbeats 20000000
namespace Go.Proofs.YtolmnenlnpbcfaaGreatDoor
open Go.RowKit Tryz
attribute [local go_sem ↓] Go.wp_at_zero Go.wp_at_succ
def sizB(x:Hp):Bool:=eK x.M 1 4000 && !((x.B.length:Int) != 16) && !decide (2*x.M<(x.A.length:Int)) && !decide (x.A.length<x.D.length) && eK x.born 0 1000000000 && eK x.Q 0 1000000000 && eK x.S 0 1000000000 && eK x.per 0 64 && eK x.V 0 4000 && eK x.E 0 6 && eK x.I 0 (x.A.length:Int) && eK x.sub 0 200
theorem d1r(x:Hp):sizB x=true↔R1 x:=by
 simp only[sizB,eK,Bool.and_eq_true,decide_eq_true_eq,bne,Bool.not_not,beq_iff_eq,Bool.not_eq_true',decide_eq_false_iff_not];constructor;rintro h;exact⟨by omega,by omega,by omega,by omega,by omega,by omega,by omega,by omega,by omega,by omega,by omega,by omega⟩;rintro⟨_,_,_,_,_,_,_,_,_,_,_,_⟩;omega
theorem c0r(x:Hp)(b:Nat)(w:World){ar:Option Addr}{kr:Nat}{ac:Option Addr}{kc:Nat}{ag:Option Addr}{kg:Nat}(h:HAt w b x ar kr ac kc ag kg):
  Calls prog 25 #[pP b] w λe w'=>∃r:Bool,e=.returned (.bool r)/\(r=true↔R1 x)/\Ext w w':=by
 have c:∀r,sizB x=r->Calls prog 25 #[pP b] w λe w'=>e=.returned (.bool r)/\Ext w w':=by
  intro r d;obtain⟨O,M,H,z,L,t,p,y,N,Q,o,k,n,K,u,J,R,C,G⟩:=h;clear R C G;unfold sizB at d;cases f:eK x.M 1 4000;rotate_left;have v:=c4p f;cases F:((x.B.length:Int) != 16);cases q:decide (2*x.M<(x.A.length:Int));cases A:decide (x.A.length<x.D.length);cases B:eK x.born 0 1000000000;rotate_left;cases s:eK x.Q 0 1000000000;rotate_left;cases E:eK x.S 0 1000000000;rotate_left;cases I:eK x.per 0 64;rotate_left;cases P:eK x.V 0 4000;rotate_left;cases D:eK x.E 0 6;rotate_left;cases m:eK x.I 0 (x.A.length:Int);rotate_left;cases j:eK x.sub 0 200;all_goals
   simp only[*,Bool.false_and,Bool.and_false,Bool.and_true,Bool.not_true,Bool.not_false]at d;subst d;as_aux_lemma=>
    go_in;go_wp21;go_quiet ((go_at_call 65;exact Calls.quiet_of_same (a9s _ _ _ _)));go_wp2_with (go_at_call 65;refine(a9s _ _ _ _).mono ?_;rintro e w' ⟨rfl,rfl⟩);first|(go_ret;exact⟨rfl,by repeat (first|exact hO _|refine Ext.drewN ?_ _)⟩)|(refine wp_region_quiet_lit (by kernel_rfl) (by kernel_rfl) ?_;(repeat (go_big_quiet_step ((go_at_call 65;first|(refine d1j (b3w _ _ _ true ?_ _);assumption)|(refine d1j (b3w _ _ _ false ?_ _);assumption)))));refine wpQuiet_nil ?_;intro g a;obtain⟨i,a⟩:=a;have l:Ext w g:=(by rw[a];exact Ext.drewN (Ext.drewN (hO w) _) _);clear a;go_wp21;go_ret;exact⟨rfl,l⟩)
 exact(c _ rfl).mono λ_ _ h=>⟨_,h.1,d1r x,h.2⟩
end Go.Proofs.YtolmnenlnpbcfaaGreatDoor
