import Derived.Test.YtddkhnclmeikfaaGreatSpecC
set_option maxRecDepth 100000
set_option maxHeartbeats 1000000
namespace Go.Proofs.YtddkhnclmeikfaaGreat
open Go.RowKit
attribute [local go_sem ↓] Go.wp_at_zero Go.wp_at_succ
variable{ar ac ag:Option Addr}{kr kc kg:Nat}
theorem c4b(x:Hp)(b:Nat)(w:World)(h:HAt w b x ar kr ac kc ag kg)(q0:hD x.M 1 4000=true)(q1:((x.B.length:Int) != 16)=false)(q2:decide (2*x.M<(x.A.length:Int))=false)(q3:decide (x.A.length<x.D.length)=false)(q4:hD x.born 0 1000000000=true)(q5:hD x.Q 0 1000000000=true)(q6:hD x.S 0 1000000000=true)(q7:hD x.per 0 64=false):
  Calls Tryz.prog 126 #[.pointer (some ⟨b,0,none⟩)] w λe w'=>e=.returned (.bool false)/\Ext w w':=by
 obtain⟨c0,c1,c2,c3,c4,c5,c6,c7,c8,c9,c10,c11,c12,lr,lc,lg,R,C,G⟩:=h;clear R C G;have p0:=cK q0;go_enter Tryz.func126,Tryz.ntmps126;go_wp2_with fail;go_quiet ((go_at_call 60;exact Calls.quiet_of_same (dK _ _ _ _)));go_wp2_with (go_at_call 60;refine(dK _ _ _ _).mono ?_;rintro e w' ⟨rfl,rfl⟩);refine wp_region_quiet_lit (by kernel_rfl) (by kernel_rfl) ?_
 iterate 39 go_big_quiet_step ((go_at_call 60;first | (refine a3c (eC _ _ _ true ?_ _);assumption) | (refine a3c (eC _ _ _ false ?_ _);assumption)))
 refine wpQuiet_nil ?_;intro w9 hw9;obtain⟨nq9,hw9⟩:=hw9;have hx:Ext w w9:=by rw[hw9];exact Ext.drewN (Ext.drewN (Ext.refl w) _) _
 clear hw9 c0 c1 c2 c3 c4 c5 c6 c7 c8 c9 c10 c11 c12 q0 q1 q2 q3 q4 q5 q6;go_wp2_with fail;go_ret;exact⟨rfl,hx⟩
theorem c4c(x:Hp)(b:Nat)(w:World)(h:HAt w b x ar kr ac kc ag kg)(q0:hD x.M 1 4000=true)(q1:((x.B.length:Int) != 16)=false)(q2:decide (2*x.M<(x.A.length:Int))=false)(q3:decide (x.A.length<x.D.length)=false)(q4:hD x.born 0 1000000000=true)(q5:hD x.Q 0 1000000000=true)(q6:hD x.S 0 1000000000=true)(q7:hD x.per 0 64=true)(q8:hD x.V 0 4000=false):
  Calls Tryz.prog 126 #[.pointer (some ⟨b,0,none⟩)] w λe w'=>e=.returned (.bool false)/\Ext w w':=by
 obtain⟨c0,c1,c2,c3,c4,c5,c6,c7,c8,c9,c10,c11,c12,lr,lc,lg,R,C,G⟩:=h;clear R C G;have p0:=cK q0;go_enter Tryz.func126,Tryz.ntmps126;go_wp2_with fail;go_quiet ((go_at_call 60;exact Calls.quiet_of_same (dK _ _ _ _)));go_wp2_with (go_at_call 60;refine(dK _ _ _ _).mono ?_;rintro e w' ⟨rfl,rfl⟩);refine wp_region_quiet_lit (by kernel_rfl) (by kernel_rfl) ?_
 iterate 39 go_big_quiet_step ((go_at_call 60;first | (refine a3c (eC _ _ _ true ?_ _);assumption) | (refine a3c (eC _ _ _ false ?_ _);assumption)))
 refine wpQuiet_nil ?_;intro w9 hw9;obtain⟨nq9,hw9⟩:=hw9;have hx:Ext w w9:=by rw[hw9];exact Ext.drewN (Ext.drewN (Ext.refl w) _) _
 clear hw9 c0 c1 c2 c3 c4 c5 c6 c7 c8 c9 c10 c11 c12 q0 q1 q2 q3 q4 q5 q6 q7;go_wp2_with fail;go_ret;exact⟨rfl,hx⟩
theorem c4d(x:Hp)(b:Nat)(w:World)(h:HAt w b x ar kr ac kc ag kg)(q0:hD x.M 1 4000=true)(q1:((x.B.length:Int) != 16)=false)(q2:decide (2*x.M<(x.A.length:Int))=false)(q3:decide (x.A.length<x.D.length)=false)(q4:hD x.born 0 1000000000=true)(q5:hD x.Q 0 1000000000=true)(q6:hD x.S 0 1000000000=true)(q7:hD x.per 0 64=true)(q8:hD x.V 0 4000=true)(q9:hD x.E 0 6=false):
  Calls Tryz.prog 126 #[.pointer (some ⟨b,0,none⟩)] w λe w'=>e=.returned (.bool false)/\Ext w w':=by
 obtain⟨c0,c1,c2,c3,c4,c5,c6,c7,c8,c9,c10,c11,c12,lr,lc,lg,R,C,G⟩:=h;clear R C G;have p0:=cK q0;go_enter Tryz.func126,Tryz.ntmps126;go_wp2_with fail;go_quiet ((go_at_call 60;exact Calls.quiet_of_same (dK _ _ _ _)));go_wp2_with (go_at_call 60;refine(dK _ _ _ _).mono ?_;rintro e w' ⟨rfl,rfl⟩);refine wp_region_quiet_lit (by kernel_rfl) (by kernel_rfl) ?_
 iterate 39 go_big_quiet_step ((go_at_call 60;first | (refine a3c (eC _ _ _ true ?_ _);assumption) | (refine a3c (eC _ _ _ false ?_ _);assumption)))
 refine wpQuiet_nil ?_;intro w9 hw9;obtain⟨nq9,hw9⟩:=hw9;have hx:Ext w w9:=by rw[hw9];exact Ext.drewN (Ext.drewN (Ext.refl w) _) _
 clear hw9 c0 c1 c2 c3 c4 c5 c6 c7 c8 c9 c10 c11 c12 q0 q1 q2 q3 q4 q5 q6 q7 q8;go_wp2_with fail;go_ret;exact⟨rfl,hx⟩
end Go.Proofs.YtddkhnclmeikfaaGreat
