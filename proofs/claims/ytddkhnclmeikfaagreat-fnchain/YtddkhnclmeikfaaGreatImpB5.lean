import Derived.Test.YtddkhnclmeikfaaGreatDa
import Derived.Test.YtddkhnclmeikfaaGreatImpB
import Derived.Test.YtddkhnclmeikfaaGreatSpecA
set_option maxRecDepth 100000
set_option maxHeartbeats 4000000
namespace Go.Proofs.YtddkhnclmeikfaaGreat
open Go.RowKit
attribute [local go_sem ↓] Go.wp_at_zero Go.wp_at_succ
theorem withinB_true{n lo hi:Int}(h:withinB n lo hi=true):lo≤n∧n≤hi:=by simpa [withinB] using h
theorem withinB_false{n lo hi:Int}(h:withinB n lo hi=false):¬(lo≤n∧n≤hi):=by unfold withinB at h;exact of_decide_eq_false h
theorem within_is(n lo hi:Int)(r:Bool)(h:withinB n lo hi=r)(w:World):Calls Tryz.prog 78 #[.int .i64 n,.int .i64 lo,.int .i64 hi] w fun e w'=>e=.returned (.bool r)∧w'=w:=by
 rw[←h];exact within_any n lo hi w
theorem find_none(y:Wd)(b:Nat)(w:World)(k2:(y.k == 2)=false):
  Calls Tryz.prog 199 #[.pointer (some ⟨b,0,none⟩),y.v] w fun e w'=>e=.returned (.pointer none)∧Ext w w':=by
 have k2b:(y.k != 2)=true:=by simpa using k2
 go_enter Tryz.func199,Tryz.ntmps199;go_wp2_with fail;go_ret;exact⟨rfl,(Ext.refl w).alloc _⟩
theorem find_some(y:Wd)(b n bn on kn i:Nat)(w:World)(k2:(y.k == 2)=true)(c13:w.cell? ⟨b,13,none⟩=some (.slice (some ⟨bn,on,none⟩) n kn))(hn:i<n):
  Calls Tryz.prog 199 #[.pointer (some ⟨b,0,none⟩),.agg #[iv y.k,iv y.n,iv i]] w fun e w'=>e=.returned (.pointer (some ⟨bn,on+i*2,none⟩))∧Ext w w':=by
 have hb:b<w.heap.size:=cell_lt c13;have k2b:(y.k != 2)=false:=by simpa using k2
 have hi0:(0:Int)≤(i:Int):=by omega
 have hi1:(i:Int)<(n:Int):=by omega
 go_enter Tryz.func199,Tryz.ntmps199;go_wp2_with fail;go_quiet (fail);go_wp2_with fail;go_ret;exact⟨rfl,((Ext.refl w).alloc _).drewN _⟩
theorem limits_9(x:Hp)(b:Nat)(w:World){ar:Option Addr}{kr:Nat}{ac:Option Addr}{kc:Nat}{ag:Option Addr}{kg:Nat}(h:HAt w b x ar kr ac kc ag kg)(q0:withinB x.room 1 4000=true)(q1:((x.regs.length:Int) == 16)=true)(q2:decide ((x.cells.length:Int)≤2*x.room)=true)(q3:decide ((x.gray.length:Int)≤(x.cells.length:Int))=true)(q4:withinB x.born 0 1000000000=true)(q5:withinB x.rounds 0 1000000000=true)(q6:withinB x.forced 0 1000000000=true)(q7:withinB x.per 0 64=true)(q8:withinB x.start 0 4000=true)(q9:withinB x.phase 0 6=false):
  Calls Tryz.prog 106 #[.pointer (some ⟨b,0,none⟩)] w fun e w'=>e=.returned (.bool false)∧Ext w w':=by
 obtain⟨c0,c1,c2,c3,c4,c5,c6,c7,c8,c9,c10,c11,c12,lr,lc,lg,R,C,G⟩:=h;clear R C G;have p0:=withinB_true q0;have p1:(0:Int)≤x.room:=by omega
 have q2b:(x.cells.length:Int)≤2*x.room:=of_decide_eq_true q2;clear q2;have q3b:x.gray.length≤x.cells.length:=by have:=of_decide_eq_true q3;omega
 clear q3;have q1b:(x.regs.length:Int)=16:=by simpa using q1
 clear q1;go_enter Tryz.func106,Tryz.ntmps106;go_wp2_with fail;simp only [List.append];refine wp_region_quiet_lit (by kernel_rfl) lim_lex ?_
 repeat (go_big_quiet_step ((go_at_call 78;first | (refine Calls.quiet_of_same (within_is _ _ _ true ?_ _);assumption) | (refine Calls.quiet_of_same (within_is _ _ _ false ?_ _);assumption))))
 refine wpQuiet_nil ?_;intro _ hw';obtain⟨nq,hw''⟩:=hw';subst hw'';go_wp2_with fail;go_ret;exact⟨rfl,Ext.drewN (Ext.refl w) _⟩
theorem limits_8(x:Hp)(b:Nat)(w:World){ar:Option Addr}{kr:Nat}{ac:Option Addr}{kc:Nat}{ag:Option Addr}{kg:Nat}(h:HAt w b x ar kr ac kc ag kg)(q0:withinB x.room 1 4000=true)(q1:((x.regs.length:Int) == 16)=true)(q2:decide ((x.cells.length:Int)≤2*x.room)=true)(q3:decide ((x.gray.length:Int)≤(x.cells.length:Int))=true)(q4:withinB x.born 0 1000000000=true)(q5:withinB x.rounds 0 1000000000=true)(q6:withinB x.forced 0 1000000000=true)(q7:withinB x.per 0 64=true)(q8:withinB x.start 0 4000=false):
  Calls Tryz.prog 106 #[.pointer (some ⟨b,0,none⟩)] w fun e w'=>e=.returned (.bool false)∧Ext w w':=by
 obtain⟨c0,c1,c2,c3,c4,c5,c6,c7,c8,c9,c10,c11,c12,lr,lc,lg,R,C,G⟩:=h;clear R C G;have p0:=withinB_true q0;have p1:(0:Int)≤x.room:=by omega
 have q2b:(x.cells.length:Int)≤2*x.room:=of_decide_eq_true q2;clear q2;have q3b:x.gray.length≤x.cells.length:=by have:=of_decide_eq_true q3;omega
 clear q3;have q1b:(x.regs.length:Int)=16:=by simpa using q1
 clear q1;go_enter Tryz.func106,Tryz.ntmps106;go_wp2_with fail;simp only [List.append];refine wp_region_quiet_lit (by kernel_rfl) lim_lex ?_
 repeat (go_big_quiet_step ((go_at_call 78;first | (refine Calls.quiet_of_same (within_is _ _ _ true ?_ _);assumption) | (refine Calls.quiet_of_same (within_is _ _ _ false ?_ _);assumption))))
 refine wpQuiet_nil ?_;intro _ hw';obtain⟨nq,hw''⟩:=hw';subst hw'';go_wp2_with fail;go_ret;exact⟨rfl,Ext.drewN (Ext.refl w) _⟩
theorem limits_0(x:Hp)(b:Nat)(w:World){ar:Option Addr}{kr:Nat}{ac:Option Addr}{kc:Nat}{ag:Option Addr}{kg:Nat}(h:HAt w b x ar kr ac kc ag kg)(q0:withinB x.room 1 4000=false):
  Calls Tryz.prog 106 #[.pointer (some ⟨b,0,none⟩)] w fun e w'=>e=.returned (.bool false)∧Ext w w':=by
 obtain⟨c0,c1,c2,c3,c4,c5,c6,c7,c8,c9,c10,c11,c12,lr,lc,lg,R,C,G⟩:=h;clear R C G;go_enter Tryz.func106,Tryz.ntmps106;go_wp2_with fail;simp only [List.append];refine wp_region_quiet_lit (by kernel_rfl) lim_lex ?_
 repeat (go_big_quiet_step ((go_at_call 78;first | (refine Calls.quiet_of_same (within_is _ _ _ true ?_ _);assumption) | (refine Calls.quiet_of_same (within_is _ _ _ false ?_ _);assumption))))
 refine wpQuiet_nil ?_;intro _ hw';obtain⟨nq,hw''⟩:=hw';subst hw'';go_wp2_with fail;go_ret;exact⟨rfl,Ext.drewN (Ext.refl w) _⟩
theorem limits_1(x:Hp)(b:Nat)(w:World){ar:Option Addr}{kr:Nat}{ac:Option Addr}{kc:Nat}{ag:Option Addr}{kg:Nat}(h:HAt w b x ar kr ac kc ag kg)(q0:withinB x.room 1 4000=true)(q1:((x.regs.length:Int) == 16)=false):
  Calls Tryz.prog 106 #[.pointer (some ⟨b,0,none⟩)] w fun e w'=>e=.returned (.bool false)∧Ext w w':=by
 obtain⟨c0,c1,c2,c3,c4,c5,c6,c7,c8,c9,c10,c11,c12,lr,lc,lg,R,C,G⟩:=h;clear R C G;go_enter Tryz.func106,Tryz.ntmps106;go_wp2_with fail;simp only [List.append];refine wp_region_quiet_lit (by kernel_rfl) lim_lex ?_
 repeat (go_big_quiet_step ((go_at_call 78;first | (refine Calls.quiet_of_same (within_is _ _ _ true ?_ _);assumption) | (refine Calls.quiet_of_same (within_is _ _ _ false ?_ _);assumption))))
 refine wpQuiet_nil ?_;intro _ hw';obtain⟨nq,hw''⟩:=hw';subst hw'';go_wp2_with fail;go_ret;exact⟨rfl,Ext.drewN (Ext.refl w) _⟩
theorem limits_11(x:Hp)(b:Nat)(w:World){ar:Option Addr}{kr:Nat}{ac:Option Addr}{kc:Nat}{ag:Option Addr}{kg:Nat}(h:HAt w b x ar kr ac kc ag kg)(q0:withinB x.room 1 4000=true)(q1:((x.regs.length:Int) == 16)=true)(q2:decide ((x.cells.length:Int)≤2*x.room)=true)(q3:decide ((x.gray.length:Int)≤(x.cells.length:Int))=true)(q4:withinB x.born 0 1000000000=true)(q5:withinB x.rounds 0 1000000000=true)(q6:withinB x.forced 0 1000000000=true)(q7:withinB x.per 0 64=true)(q8:withinB x.start 0 4000=true)(q9:withinB x.phase 0 6=true)(q10:withinB x.hand 0 (x.cells.length:Int)=true)(q11:withinB x.sub 0 200=false):
  Calls Tryz.prog 106 #[.pointer (some ⟨b,0,none⟩)] w fun e w'=>e=.returned (.bool false)∧Ext w w':=by
 obtain⟨c0,c1,c2,c3,c4,c5,c6,c7,c8,c9,c10,c11,c12,lr,lc,lg,R,C,G⟩:=h;clear R C G;have p0:=withinB_true q0;have p1:(0:Int)≤x.room:=by omega
 have q2b:(x.cells.length:Int)≤2*x.room:=of_decide_eq_true q2;clear q2;have q3b:x.gray.length≤x.cells.length:=by have:=of_decide_eq_true q3;omega
 clear q3;have q1b:(x.regs.length:Int)=16:=by simpa using q1
 clear q1;go_enter Tryz.func106,Tryz.ntmps106;go_wp2_with fail;simp only [List.append];refine wp_region_quiet_lit (by kernel_rfl) lim_lex ?_
 repeat (go_big_quiet_step ((go_at_call 78;first | (refine Calls.quiet_of_same (within_is _ _ _ true ?_ _);assumption) | (refine Calls.quiet_of_same (within_is _ _ _ false ?_ _);assumption))))
 refine wpQuiet_nil ?_;intro _ hw';obtain⟨nq,hw''⟩:=hw';subst hw'';go_wp2_with fail;go_ret;exact⟨rfl,Ext.drewN (Ext.refl w) _⟩
theorem limits_10(x:Hp)(b:Nat)(w:World){ar:Option Addr}{kr:Nat}{ac:Option Addr}{kc:Nat}{ag:Option Addr}{kg:Nat}(h:HAt w b x ar kr ac kc ag kg)(q0:withinB x.room 1 4000=true)(q1:((x.regs.length:Int) == 16)=true)(q2:decide ((x.cells.length:Int)≤2*x.room)=true)(q3:decide ((x.gray.length:Int)≤(x.cells.length:Int))=true)(q4:withinB x.born 0 1000000000=true)(q5:withinB x.rounds 0 1000000000=true)(q6:withinB x.forced 0 1000000000=true)(q7:withinB x.per 0 64=true)(q8:withinB x.start 0 4000=true)(q9:withinB x.phase 0 6=true)(q10:withinB x.hand 0 (x.cells.length:Int)=false):
  Calls Tryz.prog 106 #[.pointer (some ⟨b,0,none⟩)] w fun e w'=>e=.returned (.bool false)∧Ext w w':=by
 obtain⟨c0,c1,c2,c3,c4,c5,c6,c7,c8,c9,c10,c11,c12,lr,lc,lg,R,C,G⟩:=h;clear R C G;have p0:=withinB_true q0;have p1:(0:Int)≤x.room:=by omega
 have q2b:(x.cells.length:Int)≤2*x.room:=of_decide_eq_true q2;clear q2;have q3b:x.gray.length≤x.cells.length:=by have:=of_decide_eq_true q3;omega
 clear q3;have q1b:(x.regs.length:Int)=16:=by simpa using q1
 clear q1;go_enter Tryz.func106,Tryz.ntmps106;go_wp2_with fail;simp only [List.append];refine wp_region_quiet_lit (by kernel_rfl) lim_lex ?_
 repeat (go_big_quiet_step ((go_at_call 78;first | (refine Calls.quiet_of_same (within_is _ _ _ true ?_ _);assumption) | (refine Calls.quiet_of_same (within_is _ _ _ false ?_ _);assumption))))
 refine wpQuiet_nil ?_;intro _ hw';obtain⟨nq,hw''⟩:=hw';subst hw'';go_wp2_with fail;go_ret;exact⟨rfl,Ext.drewN (Ext.refl w) _⟩
theorem limits_4(x:Hp)(b:Nat)(w:World){ar:Option Addr}{kr:Nat}{ac:Option Addr}{kc:Nat}{ag:Option Addr}{kg:Nat}(h:HAt w b x ar kr ac kc ag kg)(q0:withinB x.room 1 4000=true)(q1:((x.regs.length:Int) == 16)=true)(q2:decide ((x.cells.length:Int)≤2*x.room)=true)(q3:decide ((x.gray.length:Int)≤(x.cells.length:Int))=true)(q4:withinB x.born 0 1000000000=false):
  Calls Tryz.prog 106 #[.pointer (some ⟨b,0,none⟩)] w fun e w'=>e=.returned (.bool false)∧Ext w w':=by
 obtain⟨c0,c1,c2,c3,c4,c5,c6,c7,c8,c9,c10,c11,c12,lr,lc,lg,R,C,G⟩:=h;clear R C G;have p0:=withinB_true q0;have p1:(0:Int)≤x.room:=by omega
 have q2b:(x.cells.length:Int)≤2*x.room:=of_decide_eq_true q2;clear q2;have q3b:x.gray.length≤x.cells.length:=by have:=of_decide_eq_true q3;omega
 clear q3;have q1b:(x.regs.length:Int)=16:=by simpa using q1
 clear q1;go_enter Tryz.func106,Tryz.ntmps106;go_wp2_with fail;simp only [List.append];refine wp_region_quiet_lit (by kernel_rfl) lim_lex ?_
 repeat (go_big_quiet_step ((go_at_call 78;first | (refine Calls.quiet_of_same (within_is _ _ _ true ?_ _);assumption) | (refine Calls.quiet_of_same (within_is _ _ _ false ?_ _);assumption))))
 refine wpQuiet_nil ?_;intro _ hw';obtain⟨nq,hw''⟩:=hw';subst hw'';go_wp2_with fail;go_ret;exact⟨rfl,Ext.drewN (Ext.refl w) _⟩
theorem limits_3(x:Hp)(b:Nat)(w:World){ar:Option Addr}{kr:Nat}{ac:Option Addr}{kc:Nat}{ag:Option Addr}{kg:Nat}(h:HAt w b x ar kr ac kc ag kg)(q0:withinB x.room 1 4000=true)(q1:((x.regs.length:Int) == 16)=true)(q2:decide ((x.cells.length:Int)≤2*x.room)=true)(q3:decide ((x.gray.length:Int)≤(x.cells.length:Int))=false):
  Calls Tryz.prog 106 #[.pointer (some ⟨b,0,none⟩)] w fun e w'=>e=.returned (.bool false)∧Ext w w':=by
 obtain⟨c0,c1,c2,c3,c4,c5,c6,c7,c8,c9,c10,c11,c12,lr,lc,lg,R,C,G⟩:=h;clear R C G;have p0:=withinB_true q0;have p1:(0:Int)≤x.room:=by omega
 have q2b:(x.cells.length:Int)≤2*x.room:=of_decide_eq_true q2;clear q2;have q3b:decide (x.gray.length≤x.cells.length)=false:=by have:=of_decide_eq_false q3;exact decide_eq_false (by omega)
 have q1b:(x.regs.length:Int)=16:=by simpa using q1
 clear q1;go_enter Tryz.func106,Tryz.ntmps106;go_wp2_with fail;simp only [List.append];refine wp_region_quiet_lit (by kernel_rfl) lim_lex ?_
 repeat (go_big_quiet_step ((go_at_call 78;first | (refine Calls.quiet_of_same (within_is _ _ _ true ?_ _);assumption) | (refine Calls.quiet_of_same (within_is _ _ _ false ?_ _);assumption))))
 refine wpQuiet_nil ?_;intro _ hw';obtain⟨nq,hw''⟩:=hw';subst hw'';go_wp2_with fail;go_ret;exact⟨rfl,Ext.drewN (Ext.refl w) _⟩
theorem limits_2(x:Hp)(b:Nat)(w:World){ar:Option Addr}{kr:Nat}{ac:Option Addr}{kc:Nat}{ag:Option Addr}{kg:Nat}(h:HAt w b x ar kr ac kc ag kg)(q0:withinB x.room 1 4000=true)(q1:((x.regs.length:Int) == 16)=true)(q2:decide ((x.cells.length:Int)≤2*x.room)=false):
  Calls Tryz.prog 106 #[.pointer (some ⟨b,0,none⟩)] w fun e w'=>e=.returned (.bool false)∧Ext w w':=by
 obtain⟨c0,c1,c2,c3,c4,c5,c6,c7,c8,c9,c10,c11,c12,lr,lc,lg,R,C,G⟩:=h;clear R C G;have p0:=withinB_true q0;have p1:(0:Int)≤x.room:=by omega
 have q1b:(x.regs.length:Int)=16:=by simpa using q1
 clear q1;go_enter Tryz.func106,Tryz.ntmps106;go_wp2_with fail;simp only [List.append];refine wp_region_quiet_lit (by kernel_rfl) lim_lex ?_
 repeat (go_big_quiet_step ((go_at_call 78;first | (refine Calls.quiet_of_same (within_is _ _ _ true ?_ _);assumption) | (refine Calls.quiet_of_same (within_is _ _ _ false ?_ _);assumption))))
 refine wpQuiet_nil ?_;intro _ hw';obtain⟨nq,hw''⟩:=hw';subst hw'';go_wp2_with fail;go_ret;exact⟨rfl,Ext.drewN (Ext.refl w) _⟩
end Go.Proofs.YtddkhnclmeikfaaGreat
