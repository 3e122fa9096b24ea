import Derived.Test.YtgkpaibbdkggiaaGreatDoorL2c
set_option maxRecDepth 100000
set_option maxHeartbeats 20000000
namespace Go.Proofs.YtgkpaibbdkggiaaGreatDoor
open Go.RowKit Tryz
attribute [local go_sem ↓] Go.wp_at_zero Go.wp_at_succ
def sizB(x:Hp):Bool:=qL x.M 1 4000 && !((x.B.length:Int) != 16) && !decide (2*x.M<(x.A.length:Int)) && !decide (x.A.length<x.D.length) && qL x.born 0 1000000000 && qL x.Q 0 1000000000 && qL x.S 0 1000000000 && qL x.per 0 64 && qL x.V 0 4000 && qL x.E 0 6 && qL x.I 0 (x.A.length:Int) && qL x.sub 0 200
theorem d0q(x:Hp):sizB x=true↔R1 x:=by
 simp only[sizB,qL,Bool.and_eq_true,decide_eq_true_eq,bne,Bool.not_not,beq_iff_eq,Bool.not_eq_true',decide_eq_false_iff_not];constructor;rintro h;exact⟨by omega,by omega,by omega,by omega,by omega,by omega,by omega,by omega,by omega,by omega,by omega,by omega⟩;rintro⟨_,_,_,_,_,_,_,_,_,_,_,_⟩;omega
theorem c0b(x:Hp)(b:Nat)(w:World){ar:Option Addr}{kr:Nat}{ac:Option Addr}{kc:Nat}{ag:Option Addr}{kg:Nat}(h:HAt w b x ar kr ac kc ag kg):
  Calls prog 58 #[pP b] w λe w'=>∃r:Bool,e=.returned (.bool r)/\(r=true↔R1 x)/\Ext w w':=by
 have c:∀r,sizB x=r->Calls prog 58 #[pP b] w λe w'=>e=.returned (.bool r)/\Ext w w':=by
  intro r d;obtain⟨O,M,H,z,L,t,p,y,N,Q,o,k,n,K,u,J,R,C,G⟩:=h;clear R C G;unfold sizB at d;cases f:qL x.M 1 4000;rotate_left;have v:=c3u f;cases F:((x.B.length:Int) != 16);cases q:decide (2*x.M<(x.A.length:Int));cases A:decide (x.A.length<x.D.length);cases B:qL x.born 0 1000000000;rotate_left;cases s:qL x.Q 0 1000000000;rotate_left;cases E:qL x.S 0 1000000000;rotate_left;cases I:qL x.per 0 64;rotate_left;cases P:qL x.V 0 4000;rotate_left;cases D:qL x.E 0 6;rotate_left;cases m:qL x.I 0 (x.A.length:Int);rotate_left;cases j:qL x.sub 0 200;all_goals
   simp only[*,Bool.false_and,Bool.and_false,Bool.and_true,Bool.not_true,Bool.not_false]at d;subst d;as_aux_lemma=>
    go_in;go_wp21;go_quiet ((go_at_call 113;exact Calls.quiet_of_same (a9n _ _ _ _)));go_wp2_with (go_at_call 113;refine(a9n _ _ _ _).mono ?_;rintro e w' ⟨rfl,rfl⟩);first|(go_ret;exact⟨rfl,by repeat (first|exact hO _|refine Ext.drewN ?_ _)⟩)|(refine wp_region_quiet_lit (by kernel_rfl) (by kernel_rfl) ?_;(repeat (go_big_quiet_step ((go_at_call 113;first|(refine d0j (b3p _ _ _ true ?_ _);assumption)|(refine d0j (b3p _ _ _ false ?_ _);assumption)))));refine wpQuiet_nil ?_;intro g a;obtain⟨i,a⟩:=a;have l:Ext w g:=(by rw[a];exact Ext.drewN (Ext.drewN (hO w) _) _);clear a;go_wp21;go_ret;exact⟨rfl,l⟩)
 exact(c _ rfl).mono λ_ _ h=>⟨_,h.1,d0q x,h.2⟩
