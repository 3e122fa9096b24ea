import Derived.Test.YtddkhnclmeikfaaGreatVn
set_option maxRecDepth 100000
set_option maxHeartbeats 20000000
namespace Go.Proofs.YtddkhnclmeikfaaGreat
open Go.RowKit Tryz
attribute [local go_sem ↓] Go.wp_at_zero Go.wp_at_succ
def sizB(x:Hp):Bool:=eL x.M 1 4000 && !((x.B.length:Int) != 16) && !decide (2*x.M<(x.A.length:Int)) && !decide (x.A.length<x.D.length) && eL x.born 0 1000000000 && eL x.Q 0 1000000000 && eL x.S 0 1000000000 && eL x.per 0 64 && eL x.V 0 4000 && eL x.E 0 6 && eL x.I 0 (x.A.length:Int) && eL x.sub 0 200
theorem d0b(x:Hp):sizB x=true↔R1 x:=by
 simp only [sizB,eL,Bool.and_eq_true,decide_eq_true_eq,bne,Bool.not_not,beq_iff_eq,Bool.not_eq_true',decide_eq_false_iff_not];constructor
 ·rintro h;exact⟨by omega,by omega,by omega,by omega,by omega,by omega,by omega,by omega,by omega,by omega,by omega,by omega⟩
 ·rintro⟨_,_,_,_,_,_,_,_,_,_,_,_⟩;omega
theorem c0j(x:Hp)(b:Nat)(w:World){ar:Option Addr}{kr:Nat}{ac:Option Addr}{kc:Nat}{ag:Option Addr}{kg:Nat}(h:HAt w b x ar kr ac kc ag kg):
  Calls prog 126 #[.pointer (some ⟨b,0,none⟩)] w λe w'=>∃r:Bool,e=.returned (.bool r)/\(r=true↔R1 x)/\Ext w w':=by
 have key:∀r,sizB x=r->Calls prog 126 #[.pointer (some ⟨b,0,none⟩)] w λe w'=>e=.returned (.bool r)/\Ext w w':=by
  intro r hr;obtain⟨c0,c1,c2,c3,c4,c5,c6,c7,c8,c9,c10,c11,c12,lr,lc,lg,R,C,G⟩:=h;clear R C G;unfold sizB at hr;cases q0:eL x.M 1 4000;rotate_left;have p0:=a2v q0;cases q1:((x.B.length:Int) != 16);cases q2:decide (2*x.M<(x.A.length:Int));cases q3:decide (x.A.length<x.D.length);cases q4:eL x.born 0 1000000000;rotate_left;cases q5:eL x.Q 0 1000000000;rotate_left;cases q6:eL x.S 0 1000000000;rotate_left;cases q7:eL x.per 0 64;rotate_left;cases q8:eL x.V 0 4000;rotate_left;cases q9:eL x.E 0 6;rotate_left;cases q10:eL x.I 0 (x.A.length:Int);rotate_left;cases q11:eL x.sub 0 200
  all_goals
   simp only [*,Bool.false_and,Bool.and_false,Bool.and_true,Bool.not_true,Bool.not_false] at hr;subst hr
   as_aux_lemma=>
    go_enter func126,ntmps126;go_wp2_with fail;go_quiet ((go_at_call 60;exact Calls.quiet_of_same (a5c _ _ _ _)));go_wp2_with (go_at_call 60;refine(a5c _ _ _ _).mono ?_;rintro e w' ⟨rfl,rfl⟩)
    first | (go_ret;exact⟨rfl,by repeat (first | exact Ext.refl _ | refine Ext.drewN ?_ _)⟩) | (refine wp_region_quiet_lit (by kernel_rfl) (by kernel_rfl) ?_;(repeat (go_big_quiet_step ((go_at_call 60;first | (refine c9w (a0u _ _ _ true ?_ _);assumption) | (refine c9w (a0u _ _ _ false ?_ _);assumption)))));refine wpQuiet_nil ?_;intro w9 hw9;obtain⟨nq9,hw9⟩:=hw9;have hx:Ext w w9:=(by rw[hw9];exact Ext.drewN (Ext.drewN (Ext.refl w) _) _);clear hw9;go_wp2_with fail;go_ret;exact⟨rfl,hx⟩)
 exact(key _ rfl).mono λ_ _ h=>⟨_,h.1,d0b x,h.2⟩
end Go.Proofs.YtddkhnclmeikfaaGreat
