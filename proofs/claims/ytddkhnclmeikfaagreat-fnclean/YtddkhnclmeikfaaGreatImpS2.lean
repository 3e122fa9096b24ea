import Derived.Test.YtddkhnclmeikfaaGreatImpR
set_option maxRecDepth 100000
set_option maxHeartbeats 4000000
namespace Go.Proofs.YtddkhnclmeikfaaGreat
open Go.RowKit
attribute [local go_sem ↓] Go.wp_at_zero Go.wp_at_succ
variable{ac ar ag:Option Addr}{kc kr kg bx b bn k j:Nat}{w wr w':World}{x:Hp}{vf:Value}{F:List Int}
theorem c5d(x:Hp)(b:Nat)(w:World)(h:HAt w b x ar kr ac kc ag kg)(q0:uX x.M 1 4000=true)(q1:((x.B.length:Int) == 16)=true)(q2:decide ((x.A.length:Int)<=2*x.M)=true)(q3:decide ((x.D.length:Int)<=(x.A.length:Int))=true)(q4:uX x.born 0 1000000000=true)(q5:uX x.Q 0 1000000000=true)(q6:uX x.S 0 1000000000=true)(q7:uX x.per 0 64=true)(q8:uX x.V 0 4000=true)(q9:uX x.E 0 6=true)(q10:uX x.I 0 (x.A.length:Int)=true)(q11:uX x.sub 0 200=true):
  Calls Tryz.prog 106 #[.pointer (some ⟨b,0,none⟩)] w λe w'=>e=.returned (.bool true)/\Ext w w':=by
 obtain⟨c0,c1,c2,c3,c4,c5,c6,c7,c8,c9,c10,c11,c12,lr,lc,lg,R,C,G⟩:=h;clear R C G;have p0:=uK q0;have p1:(0:Int)<=x.M:=by omega
 have q2b:(x.A.length:Int)<=2*x.M:=of_decide_eq_true q2;clear q2;have q3b:x.D.length<=x.A.length:=by have:=of_decide_eq_true q3;omega
 clear q3;have q1b:(x.B.length:Int)=16:=by simpa using q1
 clear q1;go_enter Tryz.func106,Tryz.ntmps106;go_wp2_with fail;simp only [List.append];refine wp_region_quiet_lit (by kernel_rfl) a1s ?_
 repeat (go_big_quiet_step ((go_at_call 78;first | (refine Calls.quiet_of_same (uJ _ _ _ true ?_ _);assumption) | (refine Calls.quiet_of_same (uJ _ _ _ false ?_ _);assumption))))
 refine wpQuiet_nil ?_;intro _ hw';obtain⟨nq,hw''⟩:=hw';subst hw'';go_wp2_with fail;go_ret;exact⟨rfl,Ext.drewN (Ext.refl w) _⟩
theorem c5e(x:Hp)(b:Nat)(w:World)(h:HAt w b x ar kr ac kc ag kg)(q0:uX x.M 1 4000=true)(q1:((x.B.length:Int) == 16)=true)(q2:decide ((x.A.length:Int)<=2*x.M)=true)(q3:decide ((x.D.length:Int)<=(x.A.length:Int))=true)(q4:uX x.born 0 1000000000=true)(q5:uX x.Q 0 1000000000=true)(q6:uX x.S 0 1000000000=true)(q7:uX x.per 0 64=true)(q8:uX x.V 0 4000=true)(q9:uX x.E 0 6=true)(q10:uX x.I 0 (x.A.length:Int)=true)(q11:uX x.sub 0 200=false):
  Calls Tryz.prog 106 #[.pointer (some ⟨b,0,none⟩)] w λe w'=>e=.returned (.bool false)/\Ext w w':=by
 obtain⟨c0,c1,c2,c3,c4,c5,c6,c7,c8,c9,c10,c11,c12,lr,lc,lg,R,C,G⟩:=h;clear R C G;have p0:=uK q0;have p1:(0:Int)<=x.M:=by omega
 have q2b:(x.A.length:Int)<=2*x.M:=of_decide_eq_true q2;clear q2;have q3b:x.D.length<=x.A.length:=by have:=of_decide_eq_true q3;omega
 clear q3;have q1b:(x.B.length:Int)=16:=by simpa using q1
 clear q1;go_enter Tryz.func106,Tryz.ntmps106;go_wp2_with fail;simp only [List.append];refine wp_region_quiet_lit (by kernel_rfl) a1s ?_
 repeat (go_big_quiet_step ((go_at_call 78;first | (refine Calls.quiet_of_same (uJ _ _ _ true ?_ _);assumption) | (refine Calls.quiet_of_same (uJ _ _ _ false ?_ _);assumption))))
 refine wpQuiet_nil ?_;intro _ hw';obtain⟨nq,hw''⟩:=hw';subst hw'';go_wp2_with fail;go_ret;exact⟨rfl,Ext.drewN (Ext.refl w) _⟩
theorem c5f(x:Hp)(b:Nat)(w:World)(h:HAt w b x ar kr ac kc ag kg)(q0:uX x.M 1 4000=true)(q1:((x.B.length:Int) == 16)=true)(q2:decide ((x.A.length:Int)<=2*x.M)=true)(q3:decide ((x.D.length:Int)<=(x.A.length:Int))=true)(q4:uX x.born 0 1000000000=true)(q5:uX x.Q 0 1000000000=true)(q6:uX x.S 0 1000000000=true)(q7:uX x.per 0 64=true)(q8:uX x.V 0 4000=true)(q9:uX x.E 0 6=true)(q10:uX x.I 0 (x.A.length:Int)=false):
  Calls Tryz.prog 106 #[.pointer (some ⟨b,0,none⟩)] w λe w'=>e=.returned (.bool false)/\Ext w w':=by
 obtain⟨c0,c1,c2,c3,c4,c5,c6,c7,c8,c9,c10,c11,c12,lr,lc,lg,R,C,G⟩:=h;clear R C G;have p0:=uK q0;have p1:(0:Int)<=x.M:=by omega
 have q2b:(x.A.length:Int)<=2*x.M:=of_decide_eq_true q2;clear q2;have q3b:x.D.length<=x.A.length:=by have:=of_decide_eq_true q3;omega
 clear q3;have q1b:(x.B.length:Int)=16:=by simpa using q1
 clear q1;go_enter Tryz.func106,Tryz.ntmps106;go_wp2_with fail;simp only [List.append];refine wp_region_quiet_lit (by kernel_rfl) a1s ?_
 repeat (go_big_quiet_step ((go_at_call 78;first | (refine Calls.quiet_of_same (uJ _ _ _ true ?_ _);assumption) | (refine Calls.quiet_of_same (uJ _ _ _ false ?_ _);assumption))))
 refine wpQuiet_nil ?_;intro _ hw';obtain⟨nq,hw''⟩:=hw';subst hw'';go_wp2_with fail;go_ret;exact⟨rfl,Ext.drewN (Ext.refl w) _⟩
theorem c8z(x:Hp)(b:Nat)(w:World)(h:HAt w b x ar kr ac kc ag kg)(q0:uX x.M 1 4000=true)(q1:((x.B.length:Int) == 16)=true)(q2:decide ((x.A.length:Int)<=2*x.M)=true)(q3:decide ((x.D.length:Int)<=(x.A.length:Int))=true)(q4:uX x.born 0 1000000000=true)(q5:uX x.Q 0 1000000000=true)(q6:uX x.S 0 1000000000=true)(q7:uX x.per 0 64=true)(q8:uX x.V 0 4000=true)(q9:uX x.E 0 6=false):
  Calls Tryz.prog 106 #[.pointer (some ⟨b,0,none⟩)] w λe w'=>e=.returned (.bool false)/\Ext w w':=by
 obtain⟨c0,c1,c2,c3,c4,c5,c6,c7,c8,c9,c10,c11,c12,lr,lc,lg,R,C,G⟩:=h;clear R C G;have p0:=uK q0;have p1:(0:Int)<=x.M:=by omega
 have q2b:(x.A.length:Int)<=2*x.M:=of_decide_eq_true q2;clear q2;have q3b:x.D.length<=x.A.length:=by have:=of_decide_eq_true q3;omega
 clear q3;have q1b:(x.B.length:Int)=16:=by simpa using q1
 clear q1;go_enter Tryz.func106,Tryz.ntmps106;go_wp2_with fail;simp only [List.append];refine wp_region_quiet_lit (by kernel_rfl) a1s ?_
 repeat (go_big_quiet_step ((go_at_call 78;first | (refine Calls.quiet_of_same (uJ _ _ _ true ?_ _);assumption) | (refine Calls.quiet_of_same (uJ _ _ _ false ?_ _);assumption))))
 refine wpQuiet_nil ?_;intro _ hw';obtain⟨nq,hw''⟩:=hw';subst hw'';go_wp2_with fail;go_ret;exact⟨rfl,Ext.drewN (Ext.refl w) _⟩
theorem c9a(x:Hp)(b:Nat)(w:World)(h:HAt w b x ar kr ac kc ag kg)(q0:uX x.M 1 4000=true)(q1:((x.B.length:Int) == 16)=true)(q2:decide ((x.A.length:Int)<=2*x.M)=true)(q3:decide ((x.D.length:Int)<=(x.A.length:Int))=true)(q4:uX x.born 0 1000000000=true)(q5:uX x.Q 0 1000000000=true)(q6:uX x.S 0 1000000000=true)(q7:uX x.per 0 64=true)(q8:uX x.V 0 4000=false):
  Calls Tryz.prog 106 #[.pointer (some ⟨b,0,none⟩)] w λe w'=>e=.returned (.bool false)/\Ext w w':=by
 obtain⟨c0,c1,c2,c3,c4,c5,c6,c7,c8,c9,c10,c11,c12,lr,lc,lg,R,C,G⟩:=h;clear R C G;have p0:=uK q0;have p1:(0:Int)<=x.M:=by omega
 have q2b:(x.A.length:Int)<=2*x.M:=of_decide_eq_true q2;clear q2;have q3b:x.D.length<=x.A.length:=by have:=of_decide_eq_true q3;omega
 clear q3;have q1b:(x.B.length:Int)=16:=by simpa using q1
 clear q1;go_enter Tryz.func106,Tryz.ntmps106;go_wp2_with fail;simp only [List.append];refine wp_region_quiet_lit (by kernel_rfl) a1s ?_
 repeat (go_big_quiet_step ((go_at_call 78;first | (refine Calls.quiet_of_same (uJ _ _ _ true ?_ _);assumption) | (refine Calls.quiet_of_same (uJ _ _ _ false ?_ _);assumption))))
 refine wpQuiet_nil ?_;intro _ hw';obtain⟨nq,hw''⟩:=hw';subst hw'';go_wp2_with fail;go_ret;exact⟨rfl,Ext.drewN (Ext.refl w) _⟩
theorem c9b(x:Hp)(b:Nat)(w:World)(h:HAt w b x ar kr ac kc ag kg)(q0:uX x.M 1 4000=false):
  Calls Tryz.prog 106 #[.pointer (some ⟨b,0,none⟩)] w λe w'=>e=.returned (.bool false)/\Ext w w':=by
 obtain⟨c0,c1,c2,c3,c4,c5,c6,c7,c8,c9,c10,c11,c12,lr,lc,lg,R,C,G⟩:=h;clear R C G;go_enter Tryz.func106,Tryz.ntmps106;go_wp2_with fail;simp only [List.append];refine wp_region_quiet_lit (by kernel_rfl) a1s ?_
 repeat (go_big_quiet_step ((go_at_call 78;first | (refine Calls.quiet_of_same (uJ _ _ _ true ?_ _);assumption) | (refine Calls.quiet_of_same (uJ _ _ _ false ?_ _);assumption))))
 refine wpQuiet_nil ?_;intro _ hw';obtain⟨nq,hw''⟩:=hw';subst hw'';go_wp2_with fail;go_ret;exact⟨rfl,Ext.drewN (Ext.refl w) _⟩
theorem c9c(x:Hp)(b:Nat)(w:World)(h:HAt w b x ar kr ac kc ag kg)(q0:uX x.M 1 4000=true)(q1:((x.B.length:Int) == 16)=false):
  Calls Tryz.prog 106 #[.pointer (some ⟨b,0,none⟩)] w λe w'=>e=.returned (.bool false)/\Ext w w':=by
 obtain⟨c0,c1,c2,c3,c4,c5,c6,c7,c8,c9,c10,c11,c12,lr,lc,lg,R,C,G⟩:=h;clear R C G;go_enter Tryz.func106,Tryz.ntmps106;go_wp2_with fail;simp only [List.append];refine wp_region_quiet_lit (by kernel_rfl) a1s ?_
 repeat (go_big_quiet_step ((go_at_call 78;first | (refine Calls.quiet_of_same (uJ _ _ _ true ?_ _);assumption) | (refine Calls.quiet_of_same (uJ _ _ _ false ?_ _);assumption))))
 refine wpQuiet_nil ?_;intro _ hw';obtain⟨nq,hw''⟩:=hw';subst hw'';go_wp2_with fail;go_ret;exact⟨rfl,Ext.drewN (Ext.refl w) _⟩
theorem c9d(x:Hp)(b:Nat)(w:World)(h:HAt w b x ar kr ac kc ag kg)(q0:uX x.M 1 4000=true)(q1:((x.B.length:Int) == 16)=true)(q2:decide ((x.A.length:Int)<=2*x.M)=true)(q3:decide ((x.D.length:Int)<=(x.A.length:Int))=true)(q4:uX x.born 0 1000000000=true)(q5:uX x.Q 0 1000000000=true)(q6:uX x.S 0 1000000000=true)(q7:uX x.per 0 64=false):
  Calls Tryz.prog 106 #[.pointer (some ⟨b,0,none⟩)] w λe w'=>e=.returned (.bool false)/\Ext w w':=by
 obtain⟨c0,c1,c2,c3,c4,c5,c6,c7,c8,c9,c10,c11,c12,lr,lc,lg,R,C,G⟩:=h;clear R C G;have p0:=uK q0;have p1:(0:Int)<=x.M:=by omega
 have q2b:(x.A.length:Int)<=2*x.M:=of_decide_eq_true q2;clear q2;have q3b:x.D.length<=x.A.length:=by have:=of_decide_eq_true q3;omega
 clear q3;have q1b:(x.B.length:Int)=16:=by simpa using q1
 clear q1;go_enter Tryz.func106,Tryz.ntmps106;go_wp2_with fail;simp only [List.append];refine wp_region_quiet_lit (by kernel_rfl) a1s ?_
 repeat (go_big_quiet_step ((go_at_call 78;first | (refine Calls.quiet_of_same (uJ _ _ _ true ?_ _);assumption) | (refine Calls.quiet_of_same (uJ _ _ _ false ?_ _);assumption))))
 refine wpQuiet_nil ?_;intro _ hw';obtain⟨nq,hw''⟩:=hw';subst hw'';go_wp2_with fail;go_ret;exact⟨rfl,Ext.drewN (Ext.refl w) _⟩
theorem c9e(x:Hp)(b:Nat)(w:World)(h:HAt w b x ar kr ac kc ag kg)(q0:uX x.M 1 4000=true)(q1:((x.B.length:Int) == 16)=true)(q2:decide ((x.A.length:Int)<=2*x.M)=true)(q3:decide ((x.D.length:Int)<=(x.A.length:Int))=true)(q4:uX x.born 0 1000000000=true)(q5:uX x.Q 0 1000000000=true)(q6:uX x.S 0 1000000000=false):
  Calls Tryz.prog 106 #[.pointer (some ⟨b,0,none⟩)] w λe w'=>e=.returned (.bool false)/\Ext w w':=by
 obtain⟨c0,c1,c2,c3,c4,c5,c6,c7,c8,c9,c10,c11,c12,lr,lc,lg,R,C,G⟩:=h;clear R C G;have p0:=uK q0;have p1:(0:Int)<=x.M:=by omega
 have q2b:(x.A.length:Int)<=2*x.M:=of_decide_eq_true q2;clear q2;have q3b:x.D.length<=x.A.length:=by have:=of_decide_eq_true q3;omega
 clear q3;have q1b:(x.B.length:Int)=16:=by simpa using q1
 clear q1;go_enter Tryz.func106,Tryz.ntmps106;go_wp2_with fail;simp only [List.append];refine wp_region_quiet_lit (by kernel_rfl) a1s ?_
 repeat (go_big_quiet_step ((go_at_call 78;first | (refine Calls.quiet_of_same (uJ _ _ _ true ?_ _);assumption) | (refine Calls.quiet_of_same (uJ _ _ _ false ?_ _);assumption))))
 refine wpQuiet_nil ?_;intro _ hw';obtain⟨nq,hw''⟩:=hw';subst hw'';go_wp2_with fail;go_ret;exact⟨rfl,Ext.drewN (Ext.refl w) _⟩
theorem c9f(x:Hp)(b:Nat)(w:World)(h:HAt w b x ar kr ac kc ag kg)(q0:uX x.M 1 4000=true)(q1:((x.B.length:Int) == 16)=true)(q2:decide ((x.A.length:Int)<=2*x.M)=true)(q3:decide ((x.D.length:Int)<=(x.A.length:Int))=true)(q4:uX x.born 0 1000000000=true)(q5:uX x.Q 0 1000000000=false):
  Calls Tryz.prog 106 #[.pointer (some ⟨b,0,none⟩)] w λe w'=>e=.returned (.bool false)/\Ext w w':=by
 obtain⟨c0,c1,c2,c3,c4,c5,c6,c7,c8,c9,c10,c11,c12,lr,lc,lg,R,C,G⟩:=h;clear R C G;have p0:=uK q0;have p1:(0:Int)<=x.M:=by omega
 have q2b:(x.A.length:Int)<=2*x.M:=of_decide_eq_true q2;clear q2;have q3b:x.D.length<=x.A.length:=by have:=of_decide_eq_true q3;omega
 clear q3;have q1b:(x.B.length:Int)=16:=by simpa using q1
 clear q1;go_enter Tryz.func106,Tryz.ntmps106;go_wp2_with fail;simp only [List.append];refine wp_region_quiet_lit (by kernel_rfl) a1s ?_
 repeat (go_big_quiet_step ((go_at_call 78;first | (refine Calls.quiet_of_same (uJ _ _ _ true ?_ _);assumption) | (refine Calls.quiet_of_same (uJ _ _ _ false ?_ _);assumption))))
 refine wpQuiet_nil ?_;intro _ hw';obtain⟨nq,hw''⟩:=hw';subst hw'';go_wp2_with fail;go_ret;exact⟨rfl,Ext.drewN (Ext.refl w) _⟩
theorem c9g(x:Hp)(b:Nat)(w:World)(h:HAt w b x ar kr ac kc ag kg)(q0:uX x.M 1 4000=true)(q1:((x.B.length:Int) == 16)=true)(q2:decide ((x.A.length:Int)<=2*x.M)=true)(q3:decide ((x.D.length:Int)<=(x.A.length:Int))=true)(q4:uX x.born 0 1000000000=false):
  Calls Tryz.prog 106 #[.pointer (some ⟨b,0,none⟩)] w λe w'=>e=.returned (.bool false)/\Ext w w':=by
 obtain⟨c0,c1,c2,c3,c4,c5,c6,c7,c8,c9,c10,c11,c12,lr,lc,lg,R,C,G⟩:=h;clear R C G;have p0:=uK q0;have p1:(0:Int)<=x.M:=by omega
 have q2b:(x.A.length:Int)<=2*x.M:=of_decide_eq_true q2;clear q2;have q3b:x.D.length<=x.A.length:=by have:=of_decide_eq_true q3;omega
 clear q3;have q1b:(x.B.length:Int)=16:=by simpa using q1
 clear q1;go_enter Tryz.func106,Tryz.ntmps106;go_wp2_with fail;simp only [List.append];refine wp_region_quiet_lit (by kernel_rfl) a1s ?_
 repeat (go_big_quiet_step ((go_at_call 78;first | (refine Calls.quiet_of_same (uJ _ _ _ true ?_ _);assumption) | (refine Calls.quiet_of_same (uJ _ _ _ false ?_ _);assumption))))
 refine wpQuiet_nil ?_;intro _ hw';obtain⟨nq,hw''⟩:=hw';subst hw'';go_wp2_with fail;go_ret;exact⟨rfl,Ext.drewN (Ext.refl w) _⟩
theorem c9h(x:Hp)(b:Nat)(w:World)(h:HAt w b x ar kr ac kc ag kg)(q0:uX x.M 1 4000=true)(q1:((x.B.length:Int) == 16)=true)(q2:decide ((x.A.length:Int)<=2*x.M)=true)(q3:decide ((x.D.length:Int)<=(x.A.length:Int))=false):
  Calls Tryz.prog 106 #[.pointer (some ⟨b,0,none⟩)] w λe w'=>e=.returned (.bool false)/\Ext w w':=by
 obtain⟨c0,c1,c2,c3,c4,c5,c6,c7,c8,c9,c10,c11,c12,lr,lc,lg,R,C,G⟩:=h;clear R C G;have p0:=uK q0;have p1:(0:Int)<=x.M:=by omega
 have q2b:(x.A.length:Int)<=2*x.M:=of_decide_eq_true q2;clear q2;have q3b:decide (x.D.length<=x.A.length)=false:=by have:=of_decide_eq_false q3;exact decide_eq_false (by omega)
 have q1b:(x.B.length:Int)=16:=by simpa using q1
 clear q1;go_enter Tryz.func106,Tryz.ntmps106;go_wp2_with fail;simp only [List.append];refine wp_region_quiet_lit (by kernel_rfl) a1s ?_
 repeat (go_big_quiet_step ((go_at_call 78;first | (refine Calls.quiet_of_same (uJ _ _ _ true ?_ _);assumption) | (refine Calls.quiet_of_same (uJ _ _ _ false ?_ _);assumption))))
 refine wpQuiet_nil ?_;intro _ hw';obtain⟨nq,hw''⟩:=hw';subst hw'';go_wp2_with fail;go_ret;exact⟨rfl,Ext.drewN (Ext.refl w) _⟩
theorem c9i(x:Hp)(b:Nat)(w:World)(h:HAt w b x ar kr ac kc ag kg)(q0:uX x.M 1 4000=true)(q1:((x.B.length:Int) == 16)=true)(q2:decide ((x.A.length:Int)<=2*x.M)=false):
  Calls Tryz.prog 106 #[.pointer (some ⟨b,0,none⟩)] w λe w'=>e=.returned (.bool false)/\Ext w w':=by
 obtain⟨c0,c1,c2,c3,c4,c5,c6,c7,c8,c9,c10,c11,c12,lr,lc,lg,R,C,G⟩:=h;clear R C G;have p0:=uK q0;have p1:(0:Int)<=x.M:=by omega
 have q1b:(x.B.length:Int)=16:=by simpa using q1
 clear q1;go_enter Tryz.func106,Tryz.ntmps106;go_wp2_with fail;simp only [List.append];refine wp_region_quiet_lit (by kernel_rfl) a1s ?_
 repeat (go_big_quiet_step ((go_at_call 78;first | (refine Calls.quiet_of_same (uJ _ _ _ true ?_ _);assumption) | (refine Calls.quiet_of_same (uJ _ _ _ false ?_ _);assumption))))
 refine wpQuiet_nil ?_;intro _ hw';obtain⟨nq,hw''⟩:=hw';subst hw'';go_wp2_with fail;go_ret;exact⟨rfl,Ext.drewN (Ext.refl w) _⟩
theorem a3z(x:Hp)(b:Nat)(w:World)(h:HAt w b x ar kr ac kc ag kg):
  Calls Tryz.prog 106 #[.pointer (some ⟨b,0,none⟩)] w λe w'=>∃r:Bool,Hid (e=.returned (.bool r))/\(r=true↔R1 x)/\Ext w w':=by
 cases q0:uX x.M 1 4000
 ·exact(c9b x b w h q0).mono λ_ _ ⟨he,hx⟩=>⟨false,he,⟨λf=>by simp at f,λr=>by exfalso;exact a0b q0 r.M⟩,hx⟩
 cases q1:((x.B.length:Int) == 16)
 ·exact(c9c x b w h q0 q1).mono λ_ _ ⟨he,hx⟩=>⟨false,he,⟨λf=>by simp at f,λr=>by exfalso;simp at q1;exact q1 (by have:=r.B;omega)⟩,hx⟩
 cases q2:decide ((x.A.length:Int)<=2*x.M)
 ·exact(c9i x b w h q0 q1 q2).mono λ_ _ ⟨he,hx⟩=>⟨false,he,⟨λf=>by simp at f,λr=>by exfalso;exact of_decide_eq_false q2 r.A⟩,hx⟩
 cases q3:decide ((x.D.length:Int)<=(x.A.length:Int))
 ·exact(c9h x b w h q0 q1 q2 q3).mono λ_ _ ⟨he,hx⟩=>⟨false,he,⟨λf=>by simp at f,λr=>by exfalso;exact of_decide_eq_false q3 (by have:=r.D;omega)⟩,hx⟩
 cases q4:uX x.born 0 1000000000
 ·exact(c9g x b w h q0 q1 q2 q3 q4).mono λ_ _ ⟨he,hx⟩=>⟨false,he,⟨λf=>by simp at f,λr=>by exfalso;exact a0b q4 r.born⟩,hx⟩
 cases q5:uX x.Q 0 1000000000
 ·exact(c9f x b w h q0 q1 q2 q3 q4 q5).mono λ_ _ ⟨he,hx⟩=>⟨false,he,⟨λf=>by simp at f,λr=>by exfalso;exact a0b q5 r.Q⟩,hx⟩
 cases q6:uX x.S 0 1000000000
 ·exact(c9e x b w h q0 q1 q2 q3 q4 q5 q6).mono λ_ _ ⟨he,hx⟩=>⟨false,he,⟨λf=>by simp at f,λr=>by exfalso;exact a0b q6 r.S⟩,hx⟩
 cases q7:uX x.per 0 64
 ·exact(c9d x b w h q0 q1 q2 q3 q4 q5 q6 q7).mono λ_ _ ⟨he,hx⟩=>⟨false,he,⟨λf=>by simp at f,λr=>by exfalso;exact a0b q7 r.per⟩,hx⟩
 cases q8:uX x.V 0 4000
 ·exact(c9a x b w h q0 q1 q2 q3 q4 q5 q6 q7 q8).mono λ_ _ ⟨he,hx⟩=>⟨false,he,⟨λf=>by simp at f,λr=>by exfalso;exact a0b q8 r.V⟩,hx⟩
 cases q9:uX x.E 0 6
 ·exact(c8z x b w h q0 q1 q2 q3 q4 q5 q6 q7 q8 q9).mono λ_ _ ⟨he,hx⟩=>⟨false,he,⟨λf=>by simp at f,λr=>by exfalso;exact a0b q9 r.E⟩,hx⟩
 cases q10:uX x.I 0 (x.A.length:Int)
 ·exact(c5f x b w h q0 q1 q2 q3 q4 q5 q6 q7 q8 q9 q10).mono λ_ _ ⟨he,hx⟩=>⟨false,he,⟨λf=>by simp at f,λr=>by exfalso;exact a0b q10 r.I⟩,hx⟩
 cases q11:uX x.sub 0 200
 ·exact(c5e x b w h q0 q1 q2 q3 q4 q5 q6 q7 q8 q9 q10 q11).mono λ_ _ ⟨he,hx⟩=>⟨false,he,⟨λf=>by simp at f,λr=>by exfalso;exact a0b q11 r.sub⟩,hx⟩
 exact(c5d x b w h q0 q1 q2 q3 q4 q5 q6 q7 q8 q9 q10 q11).mono λ_ _ ⟨he,hx⟩=>⟨true,he,⟨λ_=>⟨uK q0,by simp at q1;omega,of_decide_eq_true q2,by have:=of_decide_eq_true q3;omega,uK q4,uK q5,uK q6,uK q7,uK q8,uK q9,uK q10,uK q11⟩,λ_=>rfl⟩,hx⟩
theorem b0t:(Tryz.prog.info? 124).map (λi=>(i.zero,i.size,i.bytes))=some (some (.agg #[iv 0,.pointer none]),2,16):=by kernel_rfl
theorem mkNodes(n:Nat)(hn:n<=1048576)(w:World):∃z,(Instr.makeSlice 117 (.int .i64 n) (.int .i64 n)).run Tryz.prog w=.ok (.slice (some ⟨w.heap.size,0,none⟩) n n) (w.alloc (.cells (madeCells z (n*2)) 124)):=by
 obtain⟨i0,hi,hz0,hz1,hz2⟩:=info_parts b0t;have h:=run_make (P:=Tryz.prog) w 117 124 i0 _ Tryz.underlying117 hi hz0 .i64 .i64 n n (by omega) (Int.le_refl _) (by rw[hz2];omega) (by omega);rw[hz1] at h;simp only [Int.toNat_natCast] at h;exact⟨_,h⟩
theorem c9j(x:Hp)(w:World)(b:Nat)
  (hc:∀o v,#[iv x.M,iv x.K,iv x.born,.slice ar x.B.length kr,.slice ac x.A.length kc,iv x.E,iv x.I,iv x.sub,.slice ag x.D.length kg,iv x.per,iv x.V,iv x.Q,iv x.S][o]?=some v->w.cell? ⟨b,o,none⟩=some v)
  (hR:SlW w (.slice ar x.B.length kr) x.B) (hC:SlC w (.slice ac x.A.length kc) x.A) (hG:SlI w (.slice ag x.D.length kg) x.D):HAt w b x ar kr ac kc ag kg:=by
 obtain⟨a1,k1,v1,l1,R⟩:=hR;obtain⟨a2,k2,v2,l2,C⟩:=hC;obtain⟨a3,k3,v3,l3,G⟩:=hG;simp only [Value.slice.injEq] at v1 v2 v3;obtain⟨rfl,_,rfl⟩:=v1;obtain⟨rfl,_,rfl⟩:=v2;obtain⟨rfl,_,rfl⟩:=v3;refine⟨hc 0 _ rfl,hc 1 _ rfl,hc 2 _ rfl,hc 3 _ rfl,hc 4 _ rfl,hc 5 _ rfl,hc 6 _ rfl,hc 7 _ rfl,hc 8 _ rfl,hc 9 _ rfl,hc 10 _ rfl,hc 11 _ rfl,hc 12 _ rfl,l1,l2,l3,R,?_,G⟩;intro i hi;obtain⟨b',o,a,p⟩:=C i hi;rw[Hp.c_eq] at p;exact⟨b',o,a,p⟩
structure Opn(w wr:World)(x:Hp)(bx b bn k j:Nat)(ar:Option Addr)(kr:Nat)(ac:Option Addr)(kc:Nat)(ag:Option Addr)(kg:Nat)(vf:Value)(F:List Int):Prop where
 e:Ext w wr
 hb:w.heap.size<=bx/\bx<b/\b<bn/\bn<wr.heap.size
 x4:wr.cell? ⟨bx,4,none⟩=some (.slice ac x.A.length kc)
 c:∀o v,#[iv x.M,iv x.K,iv x.born,.slice ar x.B.length kr,.slice ac x.A.length kc,iv x.E,iv x.I,iv x.sub,.slice ag x.D.length kg,iv x.per,iv x.V,iv x.Q,iv x.S][o]?=some v->wr.cell? ⟨b,o,none⟩=some v
 n13:wr.cell? ⟨b,13,none⟩=some (.slice (some ⟨bn,0,none⟩) x.A.length x.A.length)
 n:∀i,i<k->∃bc oc,ac=some ⟨bc,oc,none⟩/\wr.cell? ⟨bn,i*2,none⟩=some (iv i)/\wr.cell? ⟨bn,i*2+1,none⟩=some (.pointer (some ⟨bc,oc+i*8,none⟩))
 o:∀j,j<x.A.length*2->yN wr bn j
 f:eK wr (bn+1) b 14 vf F
 fo:Ho F
 fp:F.Perm (a7w x j)
theorem Opn.len(h:Opn w wr x bx b bn k j ar kr ac kc ag kg vf F):F.length<=j:=by
 rw[h.fp.length_eq];exact a2q _ _ _
theorem Opn.same(h:Opn w wr x bx b bn k j ar kr ac kc ag kg vf F)(h1:w'.heap=wr.heap)(h2:w'.os=wr.os)(h3:w'.tape=wr.tape)(h4:w'.output=wr.output):
  Opn w w' x bx b bn k j ar kr ac kc ag kg vf F:=by
 have e:Ext wr w':=⟨h2,h3,h4,by rw[h1];exact Nat.le_refl _,λk _=>by rw[h1]⟩;exact⟨h.e.trans e,⟨h.hb.1,h.hb.2.1,h.hb.2.2.1,by rw[h1];exact h.hb.2.2.2⟩,e.keep h.x4,λo v q=>e.keep (h.c o v q),e.keep h.n13,λi hi=>let ⟨bc,oc,a,p,q⟩:=h.n i hi;⟨bc,oc,a,e.keep p,e.keep q⟩,λj hj=>(h.o j hj).ext e,h.f.ext e,h.fo,h.fp⟩
theorem Opn.lay{bc oc:Nat}(h:Opn w wr x bx b bn k k ar kr ac kc ag kg vf F)(hac:ac=some ⟨bc,oc,none⟩)(hk:k<x.A.length):
  Opn w ((wr.setCell ⟨bn,k*2,none⟩ (iv k)).setCell ⟨bn,k*2+1,none⟩ (.pointer (some ⟨bc,oc+k*8,none⟩))) x bx b bn (k+1) k ar kr ac kc ag kg vf F:=by
 obtain⟨hb1,hb2,hb3,hb4⟩:=h.hb;have o1:=h.o (k*2) (by omega);have o2:=h.o (k*2+1) (by omega)
 have far:∀B O,B≠bn->((wr.setCell ⟨bn,k*2,none⟩ (iv k)).setCell ⟨bn,k*2+1,none⟩ (.pointer (some ⟨bc,oc+k*8,none⟩))).cell? ⟨B,O,none⟩=wr.cell? ⟨B,O,none⟩:=λB O hB=>by
  rw[uC _ (.inl (λe=>hB e.symm)),uC _ (.inl (λe=>hB e.symm))]
 have farb:∀B:Nat,B≠bn->((wr.setCell ⟨bn,k*2,none⟩ (iv k)).setCell ⟨bn,k*2+1,none⟩ (.pointer (some ⟨bc,oc+k*8,none⟩))).heap[B]?=wr.heap[B]?:=λB hB=>by
  rw[Below.heap_setCell _ _ _ _ (show B≠bn from hB),Below.heap_setCell _ _ _ _ (show B≠bn from hB)]
 refine⟨(h.e.setCell (by show w.heap.size<=bn;omega) _).setCell (by show w.heap.size<=bn;omega) _,⟨hb1,hb2,hb3,by simpa [World.setCell] using hb4⟩,by rw[far _ _ (by omega)];exact h.x4,λo v q=>by rw[far _ _ (by omega)];exact h.c o v q,by rw[far _ _ (by omega)];exact h.n13,λi hi=>?_,λj hj=>((h.o j hj).set _ _).set _ _,⟨by rw[far _ _ (by omega)];exact h.f.hd,?_,?_,h.f.apart⟩,h.fo,h.fp⟩
 ·by_cases e:i=k
  ·subst e;refine⟨bc,oc,hac,?_,(o2.set _ _).same _⟩;rw[uC _ (.inr (by omega))];exact o1.same _
  ·obtain⟨bc',oc',a,p,q⟩:=h.n i (by omega);refine⟨bc',oc',a,?_,?_⟩
   ·rw[uC _ (.inr (by omega)),uC _ (.inr (by omega))];exact p
   ·rw[uC _ (.inr (by omega)),uC _ (.inr (by omega))];exact q
 ·rw[World.frozen?_setCell,World.frozen?_setCell];exact h.f.hf
 ·exact uN h.f.own (λB hB=>farb B (by have:=(h.f.rlt B hB).1;omega))
theorem Opn.skip(h:Opn w wr x bx b bn (k+1) k ar kr ac kc ag kg vf F)(hs:yK x 0 k=false):
  Opn w wr x bx b bn (k+1) (k+1) ar kr ac kc ag kg vf F:=
 ⟨h.e,h.hb,h.x4,h.c,h.n13,h.n,h.o,h.f,h.fo,by unfold a7w;rw[a2p _ _ _ hs];exact h.fp⟩
theorem Opn.put{v':Value}{F':List Int}(h:Opn w wr x bx b bn (k+1) k ar kr ac kc ag kg vf F)(hs:yK x 0 k=true)
  (l:eK w' (bn+1) b 14 v' F') (o:Ho F') (p:F'.Perm ((k:Int)::F)) (q:QFr b 14 vf v' wr w'):Opn w w' x bx b bn (k+1) (k+1) ar kr ac kc ag kg v' F':=by
 obtain⟨hb1,hb2,hb3,hb4⟩:=h.hb;have hv:∀B,B<=bn->vf.ownBlock≠some B:=λB hB e=>by have:=(h.f.rlt B e).1;omega
 refine⟨q.ext h.e (by omega) (λB hB=>by have:=(h.f.rlt B hB).1;omega),⟨hb1,hb2,hb3,Nat.lt_of_lt_of_le hb4 q.size⟩,q.A h.x4 (by omega) (hv _ (by omega)),λo v hq=>?_,by rw[q.hdr 13 (by omega)];exact h.n13,λi hi=>?_,λj hj=>?_,l,o,?_⟩
 ·have ho:o<13:=by
   rcases Nat.lt_or_ge o 13 with h' | h'
   ·exact h'
   ·rw[Array.getElem?_eq_none (by simpa using h')] at hq;cases hq
  rw[q.hdr o (by omega)];exact h.c o v hq
 ·obtain⟨bc,oc,a,p1,p2⟩:=h.n i hi;exact⟨bc,oc,a,q.A p1 (by omega) (hv _ (by omega)),q.A p2 (by omega) (hv _ (by omega))⟩
 ·obtain⟨⟨v,h1⟩,h2⟩:=h.o j hj;refine⟨⟨v,q.A h1 (by omega) (hv _ (by omega))⟩,?_⟩;rw[World.frozen?_of_block (w:=wr) (a:=⟨bn,j,none⟩) (q.block bn hb4 (by omega) (hv _ (by omega)))];exact h2
 ·unfold a7w;rw[a2o _ _ _ hs];exact(p.trans (h.fp.cons _)).trans (List.perm_append_singleton _ _).symm
theorem Opn.done(h:Opn w wr x bx b bn x.A.length x.A.length ar kr ac kc ag kg vf F)
  (hR:SlW w (.slice ar x.B.length kr) x.B) (hC:SlC w (.slice ac x.A.length kc) x.A) (hG:SlI w (.slice ag x.D.length kg) x.D) :
  VAt wr b x ar kr ac kc ag kg (some ⟨bn,0,none⟩) x.A.length/\FAt wr b x (bn+1) vf F:=
 ⟨⟨c9j x wr b h.c (SlW.ext h.e hR) (SlC.ext h.e hC) (SlI.ext h.e hG),h.n13,λi hi=>let ⟨bc,oc,a,p,q⟩:=h.n i hi;⟨bn,0,bc,oc,rfl,a,by simpa using p,by simpa using q⟩⟩,h.f,h.fo,h.fp⟩
theorem b9g(x:Hp)(w:World)(ar:Option Addr)(kr:Nat)(ac:Option Addr)(kc:Nat)(ag:Option Addr)(kg:Nat):
  ∀o v,#[iv x.M,iv x.K,iv x.born,.slice ar x.B.length kr,.slice ac x.A.length kc,iv x.E,iv x.I,iv x.sub,.slice ag x.D.length kg,iv x.per,iv x.V,iv x.Q,iv x.S][o]?=some v->((w.alloc (.cells #[iv x.M,iv x.K,iv x.born,.slice ar x.B.length kr,.slice ac x.A.length kc,iv x.E,iv x.I,iv x.sub,.slice ag x.D.length kg,iv x.per,iv x.V,iv x.Q,iv x.S] 34)).alloc (.cells #[iv x.M,iv x.K,iv x.born,.slice ar x.B.length kr,.slice ac x.A.length kc,iv x.E,iv x.I,iv x.sub,.slice ag x.D.length kg,iv x.per,iv x.V,iv x.Q,iv x.S,.slice none 0 0,.slice none 0 0] 121)).cell? ⟨w.heap.size+1,o,none⟩=some v:=λo v hv=>by
 have ho:o<13:=by
  rcases Nat.lt_or_ge o 13 with h' | h'
  ·exact h'
  ·rw[Array.getElem?_eq_none (by simpa using h')] at hv;cases hv
 match o,ho with
 | 0,_ | 1,_ | 2,_ | 3,_ | 4,_ | 5,_ | 6,_ | 7,_ | 8,_ | 9,_ | 10,_ | 11,_ | 12,_=>simp [go_sem];exact Option.some.inj hv
theorem SlC.nth(h:SlC w (.slice ac x.A.length kc) x.A)(k:Nat)(hk:k<x.A.length):∃bc oc,ac=some ⟨bc,oc,none⟩/\bc<w.heap.size/\b7k w bc (oc+k*8) (x.c k):=by
 obtain⟨_,_,v,_,C⟩:=h;obtain⟨b',o',a,p⟩:=C k hk;rw[Hp.c_eq] at p;simp only [Value.slice.injEq] at v;exact⟨b',o',v.1.trans a,let ⟨_,p0,_⟩:=p;uL p0,p⟩
theorem Opn.V{w1:World}(z:Array Value)
  (hq:Ext ((w.alloc (.cells #[iv x.M,iv x.K,iv x.born,.slice ar x.B.length kr,.slice ac x.A.length kc,iv x.E,iv x.I,iv x.sub,.slice ag x.D.length kg,iv x.per,iv x.V,iv x.Q,iv x.S] 34)).alloc (.cells #[iv x.M,iv x.K,iv x.born,.slice ar x.B.length kr,.slice ac x.A.length kc,iv x.E,iv x.I,iv x.sub,.slice ag x.D.length kg,iv x.per,iv x.V,iv x.Q,iv x.S,.slice none 0 0,.slice none 0 0] 121)) w1) :
  Opn w ((w1.alloc (.cells (madeCells z (x.A.length*2)) 124)).setCell ⟨w.heap.size+1,13,none⟩ (.slice (some ⟨w1.heap.size,0,none⟩) x.A.length x.A.length)) x w.heap.size (w.heap.size+1) w1.heap.size 0 0 ar kr ac kc ag kg (.slice none 0 0) []:=by
 have xe:Ext w ((w.alloc (.cells #[iv x.M,iv x.K,iv x.born,.slice ar x.B.length kr,.slice ac x.A.length kc,iv x.E,iv x.I,iv x.sub,.slice ag x.D.length kg,iv x.per,iv x.V,iv x.Q,iv x.S] 34)).alloc (.cells #[iv x.M,iv x.K,iv x.born,.slice ar x.B.length kr,.slice ac x.A.length kc,iv x.E,iv x.I,iv x.sub,.slice ag x.D.length kg,iv x.per,iv x.V,iv x.Q,iv x.S,.slice none 0 0,.slice none 0 0] 121)):=((Ext.refl w).alloc _).alloc _;have hsz:w.heap.size+2<=w1.heap.size:=by have:=hq.size;simp at this;omega
 have old:∀o v,w1.cell? ⟨w.heap.size+1,o,none⟩=some v->o≠13->((w1.alloc (.cells (madeCells z (x.A.length*2)) 124)).setCell ⟨w.heap.size+1,13,none⟩ (.slice (some ⟨w1.heap.size,0,none⟩) x.A.length x.A.length)).cell? ⟨w.heap.size+1,o,none⟩=some v:=λo v h ho=>by
  rw[uC _ (.inr (λe=>ho e.symm))];exact((Ext.refl w1).alloc _).keep h
 have c13:(w1.alloc (.cells (madeCells z (x.A.length*2)) 124)).cell? ⟨w.heap.size+1,13,none⟩=some (.slice none 0 0):=((Ext.refl w1).alloc _).keep (hq.keep (by simp [go_sem]));have c14:w1.cell? ⟨w.heap.size+1,14,none⟩=some (.slice none 0 0):=hq.keep (by simp [go_sem])
 have f14:w1.frozen? ⟨w.heap.size+1,14,none⟩=false:=by
  rw[hq.frozen (p:=⟨w.heap.size+1,14,none⟩) (by simp)];simp [go_sem]
 refine⟨((xe.trans hq).alloc _).setCell (by show _<=w.heap.size+1;omega) _,⟨Nat.le_refl _,by omega,by omega,by simp [World.setCell]⟩,?_,λo v hv=>old o v (hq.keep (b9g x w ar kr ac kc ag kg o v hv)) ?_,World.cell?_setCell_same _ _ _ c13,λi hi=>by omega,λj hj=>(a7d _ _ _ _ _ hj).set _ _,eK.nil (old 14 _ c14 (by omega)) ?_,Ho.nil,List.Perm.refl _⟩
 ·rw[uC _ (.inl (by omega))];exact((Ext.refl w1).alloc _).keep (hq.keep (by simp [go_sem]))
 ·intro e;rw[e] at hv;simp at hv
 ·rw[World.frozen?_setCell,((Ext.refl w1).alloc _).frozen (p:=⟨w.heap.size+1,14,none⟩) (by show w.heap.size+1<w1.heap.size;omega)];exact f14
theorem b9h(x:Hp)(w:World)(hR:SlW w (.slice ar x.B.length kr) x.B)(hC:SlC w (.slice ac x.A.length kc) x.A)(hG:SlI w (.slice ag x.D.length kg) x.D):
  Calls Tryz.prog 67 #[x.v (.slice ar x.B.length kr) (.slice ac x.A.length kc) (.slice ag x.D.length kg)] w λe w'=>∃b,Hid (e=.returned (.pointer (some ⟨b,0,none⟩)))/\Ext w w'/\Hid ((¬R1 x/\HAt w' b x ar kr ac kc ag kg)\/(R1 x/\∃bx bn vf F,Opn w w' x bx b bn x.A.length x.A.length ar kr ac kc ag kg vf F)):=by
 have HSL:=uU (And.intro hR (And.intro hC hG));have lc:x.A.length<=35184372088832:=let ⟨_,_,_,l,_⟩:=hC;l;clear hR hC hG;go_enter Tryz.func67,Tryz.ntmps67;go_wp2_with fail;have xe:Ext w ((w.alloc (.cells #[iv x.M,iv x.K,iv x.born,.slice ar x.B.length kr,.slice ac x.A.length kc,iv x.E,iv x.I,iv x.sub,.slice ag x.D.length kg,iv x.per,iv x.V,iv x.Q,iv x.S] 34)).alloc (.cells #[iv x.M,iv x.K,iv x.born,.slice ar x.B.length kr,.slice ac x.A.length kc,iv x.E,iv x.I,iv x.sub,.slice ag x.D.length kg,iv x.per,iv x.V,iv x.Q,iv x.S,.slice none 0 0,.slice none 0 0] 121)):=((Ext.refl w).alloc _).alloc _;have hh:=c9j x _ (w.heap.size+1) (b9g x w ar kr ac kc ag kg) (SlW.ext xe HSL.1) (SlC.ext xe HSL.2.1) (SlI.ext xe HSL.2.2);refine(a3z x (w.heap.size+1) _ hh).mono ?_;rintro e w1 ⟨r,rfl,hr,hq⟩;have X1:=uU (xe.trans hq);cases r
 ·have N:=uU (show ¬R1 x from λr=>by have:=hr.2 r;simp at this);have H1:=uU (hh.ext hq);clear hr hq hh xe;go_wp2_with fail;go_ret;exact⟨w.heap.size+1,rfl,X1,.inl ⟨N,H1⟩⟩
 have Y:=uU (hr.1 rfl);have hn8:x.A.length<=8000:=by have:=Y.M;have:=Y.A;omega
 have hsz:w.heap.size+2<=w1.heap.size:=by have:=hq.size;simp at this;omega
 have hs0:w.heap.size<w1.heap.size:=by omega
 have hs1:w.heap.size+1<w1.heap.size:=by omega
 obtain⟨z,hmk⟩:=mkNodes x.A.length (by omega) w1;have s0:=Opn.V z hq;rw[World.setCell_alloc_past _ _ _ _ hs1] at s0;have S0:=uU s0;clear s0;have b4:w1.cell? ⟨w.heap.size,4,none⟩=some (.slice ac x.A.length kc):=hq.keep (by simp [go_sem]);have b13:w1.cell? ⟨w.heap.size+1,13,none⟩=some (.slice none 0 0):=hq.keep (by simp [go_sem])
 have g13:w1.frozen? ⟨w.heap.size+1,13,none⟩=false:=by
  rw[hq.frozen (p:=⟨w.heap.size+1,13,none⟩) (by simp)];simp [go_sem]
 clear hr hh xe hq;go_wp2_with fail;go_loopw [22] (λi wr=>∃(k:Nat) (vf:Value) (F:List Int),k<=x.A.length/\i=.int .i64 k/\Opn w wr x w.heap.size (w.heap.size+1) w1.heap.size k k ar kr ac kc ag kg vf F) (λi _=>x.A.length-(intOf i).toNat)
 case atStart=>exact⟨0,_,_,Nat.zero_le _,rfl,S0⟩
 case round=>
  clear S0 b4 b13 g13 hmk;obtain⟨k,vf,F,hk,rfl,hop⟩:=hrel;have HO:=uU hop;by_cases hlt:k<x.A.length
  ·obtain⟨bc,oc,hac,hbc,vp,p0',_⟩:=SlC.nth HSL.2.1 k hlt;have P0:=uU p0';clear p0';have q4:=hop.x4;have q13:=hop.n13;rw[hac] at q4;obtain⟨⟨u1,v1⟩,f1⟩:=hop.o (k*2) (by omega);obtain⟨⟨u2,v2⟩,f2⟩:=hop.o (k*2+1) (by omega);have hk0:(0:Int)<=(k:Int):=by omega
   have hk1:(k:Int)<(x.A.length:Int):=by omega
   have hbw:w1.heap.size<wr.heap.size:=hop.hb.2.2.2;have L2:=uU (hop.lay hac hlt);have HAC:=uU hac;clear hop hac;go_wp2_with fail
   go_region
   generalize hW:((wr.setCell ⟨w1.heap.size,k*2,none⟩ (.int .i64 k)).setCell ⟨w1.heap.size,k*2+1,none⟩ (.pointer (some ⟨bc,oc+k*8,none⟩))).drew=W2;have L3:=uU (L2.same (w':=W2) (by rw[<-hW];rfl) (by rw[<-hW];rfl) (by rw[<-hW];rfl) (by rw[<-hW];rfl));have q4':=L3.x4;rw[uH HAC] at q4';have p0:=L3.e.keep P0;have hlen:F.length<=1000000000:=by have:=L3.len;omega
   have hbs:w1.heap.size+1<=W2.heap.size:=L3.hb.2.2.2;clear hW L2 q4 q13 v1 v2 f1 f2 hbw;cases s0:((x.c k).st == 0)
   ·have L4:=uU (L3.skip s0);go_wp2_with fail;go_roundw
    case rel=>exact⟨k+1,vf,F,by omega,by go_num,L4⟩
    case measure=>simp [intOf];omega
   ·go_wp2_with fail;refine(b3h _ (w1.heap.size+1) (w.heap.size+1) 14 vf F (k:Int) L3.f hbs L3.fo (by omega)).mono ?_;rintro e w3 ⟨rfl,v3,F3,l3,o3,p3,q3⟩;have L4:=uU (L3.put s0 l3 o3 p3 q3);clear l3 o3 p3 q3;go_wp2_with fail;go_roundw
    case rel=>exact⟨k+1,v3,F3,by omega,by go_num,L4⟩
    case measure=>simp [intOf];omega
  ·have hk2:k=x.A.length:=by omega
   subst hk2;have D:=uU hop;have E:=uU hop.e;clear hop hk hlt;go_wp2_with fail;go_ret;exact⟨w.heap.size+1,rfl,E,.inr ⟨Y,_,_,_,_,D⟩⟩
theorem c9k(x:Hp)(w:World)(hR:SlW w (.slice ar x.B.length kr) x.B)(hC:SlC w (.slice ac x.A.length kc) x.A)(hG:SlI w (.slice ag x.D.length kg) x.D):
  Calls Tryz.prog 67 #[x.v (.slice ar x.B.length kr) (.slice ac x.A.length kc) (.slice ag x.D.length kg)] w λe w'=>∃b,Hid (e=.returned (.pointer (some ⟨b,0,none⟩)))/\Ext w w'/\Hid ((¬R1 x/\HAt w' b x ar kr ac kc ag kg)\/(R1 x/\∃an kn base vf F,VAt w' b x ar kr ac kc ag kg an kn/\FAt w' b x base vf F/\Hid (∃bn on,an=some ⟨bn,on,none⟩))):=
 (b9h x w hR hC hG).mono λ_ _ ⟨b,he,hx,h⟩=>⟨b,he,hx,by
  rcases h with h | ⟨h1,bx,bn,vf,F,h2⟩
  ·exact .inl h
  ·exact .inr ⟨h1,_,_,_,_,_,(h2.done hR hC hG).1,(h2.done hR hC hG).2,⟨_,_,rfl⟩⟩⟩
end Go.Proofs.YtddkhnclmeikfaaGreat
