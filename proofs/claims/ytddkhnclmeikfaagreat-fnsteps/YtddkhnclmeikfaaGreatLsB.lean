import Derived.Test.YtddkhnclmeikfaaGreatLex
set_option maxRecDepth 100000
set_option maxHeartbeats 4000000
namespace Go.Proofs.YtddkhnclmeikfaaGreat
open Go.RowKit
attribute [local go_sem ↓] Go.wp_at_zero Go.wp_at_succ
def third:Option Code->Array Oper
 | some (.seq _ (.seq _ (.seq (.region _ ops _) _)))=>ops
 | _=>#[]
theorem a1o:Region.lexB .any (third Tryz.f106.body)=true:=b3y _ _ (by kernel_rfl) (by kernel_rfl)
def tQ(c:Cl):Bool:=(c.kind == 0) && (c.weak == 0) && (c.last == 0) && (c.born == 0) && (c.color == 0) && ((c.prs.length:Int) == 0)
theorem a7a{c:Cl}:tQ c=true↔yX c:=by
 unfold tQ yX;simp only [Bool.and_eq_true,beq_iff_eq];constructor
 ·intro h;omega
 ·intro h;omega
theorem b7f(c:Cl)(bn q bc r:Nat)(ap:Option Addr)(kp:Nat)(w:World)(m1:w.cell? ⟨bn,q+1,none⟩=some (.pointer (some ⟨bc,r,none⟩)))(h:CAt w bc r c ap kp):
  Calls Tryz.prog 172 #[.pointer (some ⟨bn,q,none⟩)] w λe w'=>e=.returned (.bool (tQ c))/\w'=w:=by
 obtain⟨p0,p1,p2,p3,p4,p5,p6,p7,lp,P⟩:=h;clear P p0 p6;cases q0:(c.kind == 0)
 ·have E:=uU (show tQ c=false by simp [tQ,q0]);go_enter Tryz.func172,Tryz.ntmps172
  go_wp2
  go_ret;exact⟨by rw[uH E];rfl,rfl⟩
 cases q1:(c.weak == 0)
 ·have E:=uU (show tQ c=false by simp [tQ,q0,q1]);go_enter Tryz.func172,Tryz.ntmps172
  go_wp2
  go_ret;exact⟨by rw[uH E];rfl,rfl⟩
 cases q2:(c.last == 0)
 ·have E:=uU (show tQ c=false by simp [tQ,q0,q1,q2]);go_enter Tryz.func172,Tryz.ntmps172
  go_wp2
  go_ret;exact⟨by rw[uH E];rfl,rfl⟩
 cases q3:(c.born == 0)
 ·have E:=uU (show tQ c=false by simp [tQ,q0,q1,q2,q3]);go_enter Tryz.func172,Tryz.ntmps172
  go_wp2
  go_ret;exact⟨by rw[uH E];rfl,rfl⟩
 cases q4:(c.color == 0)
 ·have E:=uU (show tQ c=false by simp [tQ,q0,q1,q2,q3,q4]);go_enter Tryz.func172,Tryz.ntmps172
  go_wp2
  go_ret;exact⟨by rw[uH E];rfl,rfl⟩
 cases q5:((c.prs.length:Int) == 0)
 ·have E:=uU (show tQ c=false by simp [tQ,q0,q1,q2,q3,q4,q5]);go_enter Tryz.func172,Tryz.ntmps172
  go_wp2
  go_ret;exact⟨by rw[uH E];rfl,rfl⟩
 have E:=uU (show tQ c=true by simp only [tQ,q0,q1,q2,q3,q4,q5,Bool.and_self]);go_enter Tryz.func172,Tryz.ntmps172
 go_wp2
 go_ret;exact⟨by rw[uH E];rfl,rfl⟩
theorem bare_is(c:Cl)(bn q bc r:Nat)(ap:Option Addr)(kp:Nat)(s:Bool)(hs:tQ c=s)(w:World)(m1:w.cell? ⟨bn,q+1,none⟩=some (.pointer (some ⟨bc,r,none⟩)))(h:CAt w bc r c ap kp):
  Calls Tryz.prog 172 #[.pointer (some ⟨bn,q,none⟩)] w λe w'=>e=.returned (.bool s)/\w'=w:=by
 rw[<-hs];exact b7f c bn q bc r ap kp w m1 h
theorem a2y:Region.lexB .any (third Tryz.f173.body)=true:=b3y _ _ (by kernel_rfl) (by kernel_rfl)
theorem used_0(x:Hp)(c:Cl)(b bn q bc r:Nat)(ap:Option Addr)(kp:Nat)(w:World)(_:w.cell? ⟨b,2,none⟩=some (iv x.born))(m1:w.cell? ⟨bn,q+1,none⟩=some (.pointer (some ⟨bc,r,none⟩)))(h:CAt w bc r c ap kp)(q0:uZ c.kind 0 255=false):
  Calls Tryz.prog 173 #[.pointer (some ⟨b,0,none⟩),.pointer (some ⟨bn,q,none⟩)] w λe w'=>e=.returned (.bool false)/\Ext w w':=by
 obtain⟨p0,p1,p2,p3,p4,p5,p6,p7,lp,P⟩:=h;clear P p0;go_enter Tryz.func173,Tryz.ntmps173;go_wp2_with fail
 try simp only [List.append]
 refine wp_region_quiet_lit (by kernel_rfl) a2y ?_
 repeat (go_big_quiet_step ((go_at_call 78;first | (refine Calls.quiet_of_same (uD _ _ _ true ?_ _);assumption) | (refine Calls.quiet_of_same (uD _ _ _ false ?_ _);assumption))))
 refine wpQuiet_nil ?_;intro _ hw';obtain⟨nq,hw''⟩:=hw';subst hw'';go_wp2_with fail;go_ret;exact⟨rfl,Ext.drewN (Ext.refl w) _⟩
theorem used_1(x:Hp)(c:Cl)(b bn q bc r:Nat)(ap:Option Addr)(kp:Nat)(w:World)(_:w.cell? ⟨b,2,none⟩=some (iv x.born))(m1:w.cell? ⟨bn,q+1,none⟩=some (.pointer (some ⟨bc,r,none⟩)))(h:CAt w bc r c ap kp)(q0:uZ c.kind 0 255=true)(q1:uZ c.weak 0 3=false):
  Calls Tryz.prog 173 #[.pointer (some ⟨b,0,none⟩),.pointer (some ⟨bn,q,none⟩)] w λe w'=>e=.returned (.bool false)/\Ext w w':=by
 obtain⟨p0,p1,p2,p3,p4,p5,p6,p7,lp,P⟩:=h;clear P p0;go_enter Tryz.func173,Tryz.ntmps173;go_wp2_with fail
 try simp only [List.append]
 refine wp_region_quiet_lit (by kernel_rfl) a2y ?_
 repeat (go_big_quiet_step ((go_at_call 78;first | (refine Calls.quiet_of_same (uD _ _ _ true ?_ _);assumption) | (refine Calls.quiet_of_same (uD _ _ _ false ?_ _);assumption))))
 refine wpQuiet_nil ?_;intro _ hw';obtain⟨nq,hw''⟩:=hw';subst hw'';go_wp2_with fail;go_ret;exact⟨rfl,Ext.drewN (Ext.refl w) _⟩
theorem used_2(x:Hp)(c:Cl)(b bn q bc r:Nat)(ap:Option Addr)(kp:Nat)(w:World)(_:w.cell? ⟨b,2,none⟩=some (iv x.born))(m1:w.cell? ⟨bn,q+1,none⟩=some (.pointer (some ⟨bc,r,none⟩)))(h:CAt w bc r c ap kp)(q0:uZ c.kind 0 255=true)(q1:uZ c.weak 0 3=true)(q2:uZ c.last 0 3=false):
  Calls Tryz.prog 173 #[.pointer (some ⟨b,0,none⟩),.pointer (some ⟨bn,q,none⟩)] w λe w'=>e=.returned (.bool false)/\Ext w w':=by
 obtain⟨p0,p1,p2,p3,p4,p5,p6,p7,lp,P⟩:=h;clear P p0;go_enter Tryz.func173,Tryz.ntmps173;go_wp2_with fail
 try simp only [List.append]
 refine wp_region_quiet_lit (by kernel_rfl) a2y ?_
 repeat (go_big_quiet_step ((go_at_call 78;first | (refine Calls.quiet_of_same (uD _ _ _ true ?_ _);assumption) | (refine Calls.quiet_of_same (uD _ _ _ false ?_ _);assumption))))
 refine wpQuiet_nil ?_;intro _ hw';obtain⟨nq,hw''⟩:=hw';subst hw'';go_wp2_with fail;go_ret;exact⟨rfl,Ext.drewN (Ext.refl w) _⟩
theorem used_3(x:Hp)(c:Cl)(b bn q bc r:Nat)(ap:Option Addr)(kp:Nat)(w:World)(v2:w.cell? ⟨b,2,none⟩=some (iv x.born))(m1:w.cell? ⟨bn,q+1,none⟩=some (.pointer (some ⟨bc,r,none⟩)))(h:CAt w bc r c ap kp)(q0:uZ c.kind 0 255=true)(q1:uZ c.weak 0 3=true)(q2:uZ c.last 0 3=true)(q3:uZ c.born 1 x.born=false):
  Calls Tryz.prog 173 #[.pointer (some ⟨b,0,none⟩),.pointer (some ⟨bn,q,none⟩)] w λe w'=>e=.returned (.bool false)/\Ext w w':=by
 obtain⟨p0,p1,p2,p3,p4,p5,p6,p7,lp,P⟩:=h;clear P p0;go_enter Tryz.func173,Tryz.ntmps173;go_wp2_with fail
 try simp only [List.append]
 refine wp_region_quiet_lit (by kernel_rfl) a2y ?_
 repeat (go_big_quiet_step ((go_at_call 78;first | (refine Calls.quiet_of_same (uD _ _ _ true ?_ _);assumption) | (refine Calls.quiet_of_same (uD _ _ _ false ?_ _);assumption))))
 refine wpQuiet_nil ?_;intro _ hw';obtain⟨nq,hw''⟩:=hw';subst hw'';go_wp2_with fail;go_ret;exact⟨rfl,Ext.drewN (Ext.refl w) _⟩
theorem used_4(x:Hp)(c:Cl)(b bn q bc r:Nat)(ap:Option Addr)(kp:Nat)(w:World)(v2:w.cell? ⟨b,2,none⟩=some (iv x.born))(m1:w.cell? ⟨bn,q+1,none⟩=some (.pointer (some ⟨bc,r,none⟩)))(h:CAt w bc r c ap kp)(q0:uZ c.kind 0 255=true)(q1:uZ c.weak 0 3=true)(q2:uZ c.last 0 3=true)(q3:uZ c.born 1 x.born=true)(q4:uZ c.color 0 2=false):
  Calls Tryz.prog 173 #[.pointer (some ⟨b,0,none⟩),.pointer (some ⟨bn,q,none⟩)] w λe w'=>e=.returned (.bool false)/\Ext w w':=by
 obtain⟨p0,p1,p2,p3,p4,p5,p6,p7,lp,P⟩:=h;clear P p0;go_enter Tryz.func173,Tryz.ntmps173;go_wp2_with fail
 try simp only [List.append]
 refine wp_region_quiet_lit (by kernel_rfl) a2y ?_
 repeat (go_big_quiet_step ((go_at_call 78;first | (refine Calls.quiet_of_same (uD _ _ _ true ?_ _);assumption) | (refine Calls.quiet_of_same (uD _ _ _ false ?_ _);assumption))))
 refine wpQuiet_nil ?_;intro _ hw';obtain⟨nq,hw''⟩:=hw';subst hw'';go_wp2_with fail;go_ret;exact⟨rfl,Ext.drewN (Ext.refl w) _⟩
theorem used_5(x:Hp)(c:Cl)(b bn q bc r:Nat)(ap:Option Addr)(kp:Nat)(w:World)(v2:w.cell? ⟨b,2,none⟩=some (iv x.born))(m1:w.cell? ⟨bn,q+1,none⟩=some (.pointer (some ⟨bc,r,none⟩)))(h:CAt w bc r c ap kp)(q0:uZ c.kind 0 255=true)(q1:uZ c.weak 0 3=true)(q2:uZ c.last 0 3=true)(q3:uZ c.born 1 x.born=true)(q4:uZ c.color 0 2=true)(q5:(c.to == 0)=false):
  Calls Tryz.prog 173 #[.pointer (some ⟨b,0,none⟩),.pointer (some ⟨bn,q,none⟩)] w λe w'=>e=.returned (.bool false)/\Ext w w':=by
 obtain⟨p0,p1,p2,p3,p4,p5,p6,p7,lp,P⟩:=h;clear P p0;go_enter Tryz.func173,Tryz.ntmps173;go_wp2_with fail
 try simp only [List.append]
 refine wp_region_quiet_lit (by kernel_rfl) a2y ?_
 repeat (go_big_quiet_step ((go_at_call 78;first | (refine Calls.quiet_of_same (uD _ _ _ true ?_ _);assumption) | (refine Calls.quiet_of_same (uD _ _ _ false ?_ _);assumption))))
 refine wpQuiet_nil ?_;intro _ hw';obtain⟨nq,hw''⟩:=hw';subst hw'';go_wp2_with fail;go_ret;exact⟨rfl,Ext.drewN (Ext.refl w) _⟩
theorem used_6(x:Hp)(c:Cl)(b bn q bc r:Nat)(ap:Option Addr)(kp:Nat)(w:World)(v2:w.cell? ⟨b,2,none⟩=some (iv x.born))(m1:w.cell? ⟨bn,q+1,none⟩=some (.pointer (some ⟨bc,r,none⟩)))(h:CAt w bc r c ap kp)(q0:uZ c.kind 0 255=true)(q1:uZ c.weak 0 3=true)(q2:uZ c.last 0 3=true)(q3:uZ c.born 1 x.born=true)(q4:uZ c.color 0 2=true)(q5:(c.to == 0)=true)(q6:decide ((c.prs.length:Int)<=200)=false):
  Calls Tryz.prog 173 #[.pointer (some ⟨b,0,none⟩),.pointer (some ⟨bn,q,none⟩)] w λe w'=>e=.returned (.bool false)/\Ext w w':=by
 obtain⟨p0,p1,p2,p3,p4,p5,p6,p7,lp,P⟩:=h;clear P p0;go_enter Tryz.func173,Tryz.ntmps173;go_wp2_with fail
 try simp only [List.append]
 refine wp_region_quiet_lit (by kernel_rfl) a2y ?_
 repeat (go_big_quiet_step ((go_at_call 78;first | (refine Calls.quiet_of_same (uD _ _ _ true ?_ _);assumption) | (refine Calls.quiet_of_same (uD _ _ _ false ?_ _);assumption))))
 refine wpQuiet_nil ?_;intro _ hw';obtain⟨nq,hw''⟩:=hw';subst hw'';go_wp2_with fail;go_ret;exact⟨rfl,Ext.drewN (Ext.refl w) _⟩
theorem used_7(x:Hp)(c:Cl)(b bn q bc r:Nat)(ap:Option Addr)(kp:Nat)(w:World)(v2:w.cell? ⟨b,2,none⟩=some (iv x.born))(m1:w.cell? ⟨bn,q+1,none⟩=some (.pointer (some ⟨bc,r,none⟩)))(h:CAt w bc r c ap kp)(q0:uZ c.kind 0 255=true)(q1:uZ c.weak 0 3=true)(q2:uZ c.last 0 3=true)(q3:uZ c.born 1 x.born=true)(q4:uZ c.color 0 2=true)(q5:(c.to == 0)=true)(q6:decide ((c.prs.length:Int)<=200)=true):
  Calls Tryz.prog 173 #[.pointer (some ⟨b,0,none⟩),.pointer (some ⟨bn,q,none⟩)] w λe w'=>e=.returned (.bool true)/\Ext w w':=by
 obtain⟨p0,p1,p2,p3,p4,p5,p6,p7,lp,P⟩:=h;clear P p0;go_enter Tryz.func173,Tryz.ntmps173;go_wp2_with fail
 try simp only [List.append]
 refine wp_region_quiet_lit (by kernel_rfl) a2y ?_
 repeat (go_big_quiet_step ((go_at_call 78;first | (refine Calls.quiet_of_same (uD _ _ _ true ?_ _);assumption) | (refine Calls.quiet_of_same (uD _ _ _ false ?_ _);assumption))))
 refine wpQuiet_nil ?_;intro _ hw';obtain⟨nq,hw''⟩:=hw';subst hw'';go_wp2_with fail;go_ret;exact⟨rfl,Ext.drewN (Ext.refl w) _⟩
theorem b5h(x:Hp)(c:Cl)(b bn q bc r:Nat)(ap:Option Addr)(kp:Nat)(w:World)(v2:w.cell? ⟨b,2,none⟩=some (iv x.born))(m1:w.cell? ⟨bn,q+1,none⟩=some (.pointer (some ⟨bc,r,none⟩)))(h:CAt w bc r c ap kp):
  Calls Tryz.prog 173 #[.pointer (some ⟨b,0,none⟩),.pointer (some ⟨bn,q,none⟩)] w λe w'=>∃r:Bool,Hid (e=.returned (.bool r))/\(r=true↔a2i x c)/\Ext w w':=by
 cases q0:uZ c.kind 0 255
 ·exact(used_0 x c b bn q bc r ap kp w v2 m1 h q0).mono λ_ _ ⟨he,hx⟩=>⟨false,he,⟨λf=>by simp at f,λu=>by exfalso;exact a0a q0 u.1⟩,hx⟩
 cases q1:uZ c.weak 0 3
 ·exact(used_1 x c b bn q bc r ap kp w v2 m1 h q0 q1).mono λ_ _ ⟨he,hx⟩=>⟨false,he,⟨λf=>by simp at f,λu=>by exfalso;exact a0a q1 u.2.1⟩,hx⟩
 cases q2:uZ c.last 0 3
 ·exact(used_2 x c b bn q bc r ap kp w v2 m1 h q0 q1 q2).mono λ_ _ ⟨he,hx⟩=>⟨false,he,⟨λf=>by simp at f,λu=>by exfalso;exact a0a q2 u.2.2.1⟩,hx⟩
 cases q3:uZ c.born 1 x.born
 ·exact(used_3 x c b bn q bc r ap kp w v2 m1 h q0 q1 q2 q3).mono λ_ _ ⟨he,hx⟩=>⟨false,he,⟨λf=>by simp at f,λu=>by exfalso;exact a0a q3 u.2.2.2.1⟩,hx⟩
 cases q4:uZ c.color 0 2
 ·exact(used_4 x c b bn q bc r ap kp w v2 m1 h q0 q1 q2 q3 q4).mono λ_ _ ⟨he,hx⟩=>⟨false,he,⟨λf=>by simp at f,λu=>by exfalso;exact a0a q4 u.2.2.2.2.1⟩,hx⟩
 cases q5:(c.to == 0)
 ·exact(used_5 x c b bn q bc r ap kp w v2 m1 h q0 q1 q2 q3 q4 q5).mono λ_ _ ⟨he,hx⟩=>⟨false,he,⟨λf=>by simp at f,λu=>by exfalso;have:=u.2.2.2.2.2.1;simp at q5;omega⟩,hx⟩
 cases q6:decide ((c.prs.length:Int)<=200)
 ·exact(used_6 x c b bn q bc r ap kp w v2 m1 h q0 q1 q2 q3 q4 q5 q6).mono λ_ _ ⟨he,hx⟩=>⟨false,he,⟨λf=>by simp at f,λu=>by exfalso;exact of_decide_eq_false q6 (by have:=u.2.2.2.2.2.2;omega)⟩,hx⟩
 exact(used_7 x c b bn q bc r ap kp w v2 m1 h q0 q1 q2 q3 q4 q5 q6).mono λ_ _ ⟨he,hx⟩=>⟨true,he,⟨λ_=>⟨uJ q0,uJ q1,uJ q2,uJ q3,uJ q4,by simpa using q5,by have:=of_decide_eq_true q6;omega⟩,λ_=>rfl⟩,hx⟩
theorem infoInt:(Tryz.prog.info? 3).map (λi=>(i.zero,i.size,i.bytes))=some (some (.int .i64 0),1,8):=by kernel_rfl
theorem c2r{w w1:World}{base bq oq g cap:Nat}{v:Value}{L:List Int}{x:Int}{o:Obj}(h:eX w base bq oq v L)
  (hown:w1.ownsRow base 3 1 (.slice (some ⟨g,0,none⟩) (L.length+1) cap) (L.length+1) (L.map iv++[iv x])) (hg:(w.alloc o).grownBy w1 v.ownBlock) (hat:v.ownBlock=some g\/g=w.heap.size+1) :
  eX (w1.setCell ⟨bq,oq,none⟩ (.slice (some ⟨g,0,none⟩) (L.length+1) cap)) base bq oq (.slice (some ⟨g,0,none⟩) (L.length+1) cap) (L++[x])/\
  QFr bq oq v (.slice (some ⟨g,0,none⟩) (L.length+1) cap) w (w1.setCell ⟨bq,oq,none⟩ (.slice (some ⟨g,0,none⟩) (L.length+1) cap))/\w1.cell? ⟨bq,oq,none⟩=some v/\w1.frozen? ⟨bq,oq,none⟩=false:=by
 have hlt:=h.hlt
 have hne:g≠bq:=by
  rcases hat with e | e
  ·intro q;exact h.apart (q ▸ e)
  ·omega
 have hs1:w.heap.size+1<=w1.heap.size:=by have:=hg.size;simpa using this
 have hb:∀k,k<w.heap.size->v.ownBlock≠some k->w1.heap[k]?=w.heap[k]?:=λk hk hv=>
  (hg.block k (by simp;omega) (λe=>hv e.symm)).trans (Below.heap_alloc w o k hk)
 have hbq:w1.heap[bq]?=w.heap[bq]?:=hb bq hlt h.apart;have hc:w1.cell? ⟨bq,oq,none⟩=some v:=(World.cell?_of_block (a:=⟨bq,oq,none⟩) hbq).trans h.hd;have hf:w1.frozen? ⟨bq,oq,none⟩=false:=(World.frozen?_of_block (a:=⟨bq,oq,none⟩) hbq).trans h.hf;refine⟨⟨World.cell?_setCell_same _ _ _ hc,by rw[World.frozen?_setCell];exact hf,?_,λe=>hne (by simpa [Value.ownBlock] using e)⟩,⟨?_,?_,?_,?_,λk hk h1 h2=>?_,λo' ho=>?_,λo'=>?_,?_⟩,hc,hf⟩
 ·refine uQ (by simpa using hown) (λk hk=>Below.heap_setCell _ _ _ _ ?_);simp [Value.ownBlock] at hk;show k≠bq;omega
 ·exact hg.os
 ·exact hg.tape
 ·exact hg.output
 ·have:(w1.setCell ⟨bq,oq,none⟩ (.slice (some ⟨g,0,none⟩) (L.length+1) cap)).heap.size=w1.heap.size:=by simp [World.setCell]
  omega
 ·rw[Below.heap_setCell _ _ _ _ (show k≠bq from h1)];exact hb k hk h2
 ·rw[uC _ (.inr (λe=>ho e.symm))];exact World.cell?_of_block (a:=⟨bq,o',none⟩) hbq
 ·rw[World.frozen?_setCell];exact World.frozen?_of_block (a:=⟨bq,o',none⟩) hbq
 ·rcases hat with e | e
  ·exact .inl e.symm
  ·exact .inr ⟨g,rfl,by omega⟩
theorem b2j(w:World)(base bq oq:Nat)(v:Value)(L:List Int)(x:Int)(h:eX w base bq oq v L)(hb:base<=w.heap.size)(ho:Ho L)(hn:L.length<=1000000000):
  Calls Tryz.prog 107 #[.pointer (some ⟨bq,oq,none⟩),.int .i64 x] w λe w'=>e=.returned (.tuple #[])/\∃v' L',eX w' base bq oq v' L'/\Ho L'/\L'.Perm (x::L)/\QFr bq oq v v' w w':=by
 obtain⟨i0,hi,hz0,hz1,hz2⟩:=info_parts infoInt;have hd:=h.hd;have hf:=h.hf;have hlt:=h.hlt;have HL:=uU h;have HO:=uU (a8i.start ho x);clear h ho;go_enter Tryz.func107,Tryz.ntmps107;go_wp2_with (at_builtin;refine wpList_append_lies _ rfl _ _ 32 rfl base 3 i0 (.int .i64 0) 1 8 Tryz.underlying32 hi hz0 hz1 hz2 rfl (by decide) v L.length (L.map iv) rfl (HL.own.alloc _) ⟨w.heap.size,0,none⟩ 1 1 [.int .i64 x] rfl rfl ?c1 ?c2 (by decide) ?c3 ?c4 ?c5 (w.heap.size+1) (by simp) ?_)
 case c1=>
  intro j u hj
  match j,hj with
  | 0,hj=>simp at hj;subst hj;simp [Addr.add]
 case c2=>intro u hu;simp at hu;subst hu;rfl
 case c3=>unfold maxLen;omega
 case c4=>omega
 case c5=>simp;omega
 intro g cap w1 hown hgrow hat hglt;obtain⟨P1,P2,P3,P4⟩:=c2r HL hown hgrow hat;have Q1:=uU P1;have Q2:=uU P2;clear hown hgrow hat P1 P2 hd hf;go_wp2_with fail;go_loopw [4] (λsi wr=>∃(a:Nat) (M:List Int),a<M.length/\si=.int .i64 a/\M.length=L.length+1/\eX wr base bq oq (.slice (some ⟨g,0,none⟩) (L.length+1) cap) M/\a8i M a/\M.Perm (x::L)/\QFr bq oq v (.slice (some ⟨g,0,none⟩) (L.length+1) cap) w wr) (λsi _=>(intOf si).toNat)
 case atStart=>exact⟨L.length,L++[x],by simp,by go_num,by simp,Q1,HO,List.perm_append_singleton _ _,Q2⟩
 case round=>
  clear HO HL P3 P4 Q1 Q2;obtain⟨a,M,ha,rfl,hM,hls,hr,hp,hq⟩:=hrel;have HLS:=uU hls;have HR:=uU hr;have HP:=uU hp;have HQ:=uU hq;have hd:=hls.hd;obtain⟨xa,hxa⟩:∃z,it M a=z:=⟨_,rfl⟩;have ca:=hls.cell a ha;rw[hxa] at ca;by_cases h0:0<a
  ·obtain⟨u,hu⟩:∃u,u=(a-1) / 2:=⟨_,rfl⟩;have hum:u<M.length:=by omega
   obtain⟨xu,hxu⟩:∃z,it M u=z:=⟨_,rfl⟩;have cu:=hls.cell u hum;rw[hxu] at cu
   have hq2:((a:Int)-1).tdiv 2=(u:Int):=by
    rw[Int.tdiv_eq_ediv_of_nonneg (by omega)];omega
   have i0:(0:Int)<(a:Int):=by omega
   have i1:(0:Int)<=(a:Int):=by omega
   have i2:(a:Int)<(L.length:Int)+1:=by omega
   have i3:(0:Int)<=(u:Int):=by omega
   have i4:(u:Int)<(L.length:Int)+1:=by omega
   have hua:u<a:=by omega
   have HU:=uU hu;clear hls hr hp hq hu;by_cases hc:xu<=xa
   ·have Y:=uU (a8i.done HR (by rw[<-uH HU,hxu,hxa];exact hc));go_wp2_with fail;go_quiet (fail);go_wp2_with fail
    try simp only [Exit.inBlock,Exit.then]
    refine bodyPost_ret (results_none rfl _ _ _) rfl ?_;exact⟨rfl,_,M,HLS.ext ((Ext.refl _).drewN _),Y,HP,HQ.drewN _⟩
   ·have hc2:decide (xu<=xa)=false:=decide_eq_false hc;have hc3:xa<xu:=by omega
    have R2:=uU (a8i.up HR h0 ha HU (by rw[hxu,hxa];exact hc3));clear hc hc3;go_wp2_with fail;go_quiet (fail);go_wp2_with fail;refine(c0t _ base bq oq g (L.length+1) cap u a M (HLS.ext ((Ext.refl _).drewN _)) (by omega) (by omega)).mono ?_;rintro e w2 ⟨rfl,ls2,q2⟩;have LS2:=uU ls2;have QF2:=uU ((HQ.drewN _).trans q2);clear ls2 q2;go_wp2_with fail;go_roundw
    case rel=>exact⟨u,swp M u a,by rw[a0t];omega,by go_num,by rw[a0t];omega,LS2,R2,(a3o M u a hum ha).trans HP,QF2⟩
    case measure=>simp [intOf];omega
  ·have h00:a=0:=by omega
   subst h00;have Y:=uU (a8i.top HR);clear hls hr hp hq;go_wp2_with fail
   go_end0
   exact⟨rfl,_,M,HLS,Y,HP,HQ⟩
end Go.Proofs.YtddkhnclmeikfaaGreat
