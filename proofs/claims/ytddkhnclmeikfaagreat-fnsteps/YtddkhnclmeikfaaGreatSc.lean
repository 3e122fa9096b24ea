import Derived.Test.YtddkhnclmeikfaaGreatRn
import Derived.Test.YtddkhnclmeikfaaGreatImpB3
set_option maxRecDepth 100000
set_option maxHeartbeats 4000000
namespace Go.Proofs.YtddkhnclmeikfaaGreat
open Go.RowKit
attribute [local go_sem ↓] Go.wp_at_zero Go.wp_at_succ
variable{ar ac ag:Option Addr}{kr kc kg bn b hd bx kn B br k i j bc:Nat}{w w' wr w1:World}{x:Hp}{vf v4 v8 vk:Value}{F G:List Int}{cB cO pb pk role:Nat->Nat}{K:List Nat}{pa:Nat->Option Addr}
theorem c6u(x:Hp)(b:Nat)(w:World)(h:HAt w b x ar kr ac kc ag kg)(q0:uZ x.room 1 4000=true)(q1:((x.regs.length:Int) == 16)=true)(q2:decide ((x.cells.length:Int)<=2*x.room)=true)(q3:decide ((x.gray.length:Int)<=(x.cells.length:Int))=true)(q4:uZ x.born 0 1000000000=true)(q5:uZ x.rounds 0 1000000000=true)(q6:uZ x.forced 0 1000000000=true)(q7:uZ x.per 0 64=false):
  Calls Tryz.prog 106 #[.pointer (some ⟨b,0,none⟩)] w λe w'=>e=.returned (.bool false)/\Ext w w':=by
 obtain⟨c0,c1,c2,c3,c4,c5,c6,c7,c8,c9,c10,c11,c12,lr,lc,lg,R,C,G⟩:=h;clear R C G;have p0:=uJ q0;have p1:(0:Int)<=x.room:=by omega
 have q2b:(x.cells.length:Int)<=2*x.room:=of_decide_eq_true q2;clear q2;have q3b:x.gray.length<=x.cells.length:=by have:=of_decide_eq_true q3;omega
 clear q3;have q1b:(x.regs.length:Int)=16:=by simpa using q1
 clear q1;go_enter Tryz.func106,Tryz.ntmps106;go_wp2_with fail;simp only [List.append];refine wp_region_quiet_lit (by kernel_rfl) a1o ?_
 repeat (go_big_quiet_step ((go_at_call 78;first | (refine Calls.quiet_of_same (uD _ _ _ true ?_ _);assumption) | (refine Calls.quiet_of_same (uD _ _ _ false ?_ _);assumption))))
 refine wpQuiet_nil ?_;intro _ hw';obtain⟨nq,hw''⟩:=hw';subst hw'';go_wp2_with fail;go_ret;exact⟨rfl,Ext.drewN (Ext.refl w) _⟩
theorem c6v(x:Hp)(b:Nat)(w:World)(h:HAt w b x ar kr ac kc ag kg)(q0:uZ x.room 1 4000=true)(q1:((x.regs.length:Int) == 16)=true)(q2:decide ((x.cells.length:Int)<=2*x.room)=true)(q3:decide ((x.gray.length:Int)<=(x.cells.length:Int))=true)(q4:uZ x.born 0 1000000000=true)(q5:uZ x.rounds 0 1000000000=true)(q6:uZ x.forced 0 1000000000=false):
  Calls Tryz.prog 106 #[.pointer (some ⟨b,0,none⟩)] w λe w'=>e=.returned (.bool false)/\Ext w w':=by
 obtain⟨c0,c1,c2,c3,c4,c5,c6,c7,c8,c9,c10,c11,c12,lr,lc,lg,R,C,G⟩:=h;clear R C G;have p0:=uJ q0;have p1:(0:Int)<=x.room:=by omega
 have q2b:(x.cells.length:Int)<=2*x.room:=of_decide_eq_true q2;clear q2;have q3b:x.gray.length<=x.cells.length:=by have:=of_decide_eq_true q3;omega
 clear q3;have q1b:(x.regs.length:Int)=16:=by simpa using q1
 clear q1;go_enter Tryz.func106,Tryz.ntmps106;go_wp2_with fail;simp only [List.append];refine wp_region_quiet_lit (by kernel_rfl) a1o ?_
 repeat (go_big_quiet_step ((go_at_call 78;first | (refine Calls.quiet_of_same (uD _ _ _ true ?_ _);assumption) | (refine Calls.quiet_of_same (uD _ _ _ false ?_ _);assumption))))
 refine wpQuiet_nil ?_;intro _ hw';obtain⟨nq,hw''⟩:=hw';subst hw'';go_wp2_with fail;go_ret;exact⟨rfl,Ext.drewN (Ext.refl w) _⟩
theorem c6w(x:Hp)(b:Nat)(w:World)(h:HAt w b x ar kr ac kc ag kg)(q0:uZ x.room 1 4000=true)(q1:((x.regs.length:Int) == 16)=true)(q2:decide ((x.cells.length:Int)<=2*x.room)=true)(q3:decide ((x.gray.length:Int)<=(x.cells.length:Int))=true)(q4:uZ x.born 0 1000000000=true)(q5:uZ x.rounds 0 1000000000=false):
  Calls Tryz.prog 106 #[.pointer (some ⟨b,0,none⟩)] w λe w'=>e=.returned (.bool false)/\Ext w w':=by
 obtain⟨c0,c1,c2,c3,c4,c5,c6,c7,c8,c9,c10,c11,c12,lr,lc,lg,R,C,G⟩:=h;clear R C G;have p0:=uJ q0;have p1:(0:Int)<=x.room:=by omega
 have q2b:(x.cells.length:Int)<=2*x.room:=of_decide_eq_true q2;clear q2;have q3b:x.gray.length<=x.cells.length:=by have:=of_decide_eq_true q3;omega
 clear q3;have q1b:(x.regs.length:Int)=16:=by simpa using q1
 clear q1;go_enter Tryz.func106,Tryz.ntmps106;go_wp2_with fail;simp only [List.append];refine wp_region_quiet_lit (by kernel_rfl) a1o ?_
 repeat (go_big_quiet_step ((go_at_call 78;first | (refine Calls.quiet_of_same (uD _ _ _ true ?_ _);assumption) | (refine Calls.quiet_of_same (uD _ _ _ false ?_ _);assumption))))
 refine wpQuiet_nil ?_;intro _ hw';obtain⟨nq,hw''⟩:=hw';subst hw'';go_wp2_with fail;go_ret;exact⟨rfl,Ext.drewN (Ext.refl w) _⟩
theorem c6x(x:Hp)(b:Nat)(w:World)(h:HAt w b x ar kr ac kc ag kg)(q0:uZ x.room 1 4000=true)(q1:((x.regs.length:Int) == 16)=true)(q2:decide ((x.cells.length:Int)<=2*x.room)=true)(q3:decide ((x.gray.length:Int)<=(x.cells.length:Int))=true)(q4:uZ x.born 0 1000000000=false):
  Calls Tryz.prog 106 #[.pointer (some ⟨b,0,none⟩)] w λe w'=>e=.returned (.bool false)/\Ext w w':=by
 obtain⟨c0,c1,c2,c3,c4,c5,c6,c7,c8,c9,c10,c11,c12,lr,lc,lg,R,C,G⟩:=h;clear R C G;have p0:=uJ q0;have p1:(0:Int)<=x.room:=by omega
 have q2b:(x.cells.length:Int)<=2*x.room:=of_decide_eq_true q2;clear q2;have q3b:x.gray.length<=x.cells.length:=by have:=of_decide_eq_true q3;omega
 clear q3;have q1b:(x.regs.length:Int)=16:=by simpa using q1
 clear q1;go_enter Tryz.func106,Tryz.ntmps106;go_wp2_with fail;simp only [List.append];refine wp_region_quiet_lit (by kernel_rfl) a1o ?_
 repeat (go_big_quiet_step ((go_at_call 78;first | (refine Calls.quiet_of_same (uD _ _ _ true ?_ _);assumption) | (refine Calls.quiet_of_same (uD _ _ _ false ?_ _);assumption))))
 refine wpQuiet_nil ?_;intro _ hw';obtain⟨nq,hw''⟩:=hw';subst hw'';go_wp2_with fail;go_ret;exact⟨rfl,Ext.drewN (Ext.refl w) _⟩
theorem c6y(x:Hp)(b:Nat)(w:World)(h:HAt w b x ar kr ac kc ag kg)(q0:uZ x.room 1 4000=true)(q1:((x.regs.length:Int) == 16)=true)(q2:decide ((x.cells.length:Int)<=2*x.room)=true)(q3:decide ((x.gray.length:Int)<=(x.cells.length:Int))=false):
  Calls Tryz.prog 106 #[.pointer (some ⟨b,0,none⟩)] w λe w'=>e=.returned (.bool false)/\Ext w w':=by
 obtain⟨c0,c1,c2,c3,c4,c5,c6,c7,c8,c9,c10,c11,c12,lr,lc,lg,R,C,G⟩:=h;clear R C G;have p0:=uJ q0;have p1:(0:Int)<=x.room:=by omega
 have q2b:(x.cells.length:Int)<=2*x.room:=of_decide_eq_true q2;clear q2;have q3b:decide (x.gray.length<=x.cells.length)=false:=by have:=of_decide_eq_false q3;exact decide_eq_false (by omega)
 have q1b:(x.regs.length:Int)=16:=by simpa using q1
 clear q1;go_enter Tryz.func106,Tryz.ntmps106;go_wp2_with fail;simp only [List.append];refine wp_region_quiet_lit (by kernel_rfl) a1o ?_
 repeat (go_big_quiet_step ((go_at_call 78;first | (refine Calls.quiet_of_same (uD _ _ _ true ?_ _);assumption) | (refine Calls.quiet_of_same (uD _ _ _ false ?_ _);assumption))))
 refine wpQuiet_nil ?_;intro _ hw';obtain⟨nq,hw''⟩:=hw';subst hw'';go_wp2_with fail;go_ret;exact⟨rfl,Ext.drewN (Ext.refl w) _⟩
theorem c6z(x:Hp)(b:Nat)(w:World)(h:HAt w b x ar kr ac kc ag kg)(q0:uZ x.room 1 4000=true)(q1:((x.regs.length:Int) == 16)=true)(q2:decide ((x.cells.length:Int)<=2*x.room)=false):
  Calls Tryz.prog 106 #[.pointer (some ⟨b,0,none⟩)] w λe w'=>e=.returned (.bool false)/\Ext w w':=by
 obtain⟨c0,c1,c2,c3,c4,c5,c6,c7,c8,c9,c10,c11,c12,lr,lc,lg,R,C,G⟩:=h;clear R C G;have p0:=uJ q0;have p1:(0:Int)<=x.room:=by omega
 have q1b:(x.regs.length:Int)=16:=by simpa using q1
 clear q1;go_enter Tryz.func106,Tryz.ntmps106;go_wp2_with fail;simp only [List.append];refine wp_region_quiet_lit (by kernel_rfl) a1o ?_
 repeat (go_big_quiet_step ((go_at_call 78;first | (refine Calls.quiet_of_same (uD _ _ _ true ?_ _);assumption) | (refine Calls.quiet_of_same (uD _ _ _ false ?_ _);assumption))))
 refine wpQuiet_nil ?_;intro _ hw';obtain⟨nq,hw''⟩:=hw';subst hw'';go_wp2_with fail;go_ret;exact⟨rfl,Ext.drewN (Ext.refl w) _⟩
theorem a3w(x:Hp)(b:Nat)(w:World)(h:HAt w b x ar kr ac kc ag kg):
  Calls Tryz.prog 106 #[.pointer (some ⟨b,0,none⟩)] w λe w'=>∃r:Bool,Hid (e=.returned (.bool r))/\(r=true↔R1 x)/\Ext w w':=by
 cases q0:uZ x.room 1 4000
 ·exact(c6s x b w h q0).mono λ_ _ ⟨he,hx⟩=>⟨false,he,⟨λf=>by simp at f,λr=>by exfalso;exact a0a q0 r.room⟩,hx⟩
 cases q1:((x.regs.length:Int) == 16)
 ·exact(c6t x b w h q0 q1).mono λ_ _ ⟨he,hx⟩=>⟨false,he,⟨λf=>by simp at f,λr=>by exfalso;simp at q1;exact q1 (by have:=r.regs;omega)⟩,hx⟩
 cases q2:decide ((x.cells.length:Int)<=2*x.room)
 ·exact(c6z x b w h q0 q1 q2).mono λ_ _ ⟨he,hx⟩=>⟨false,he,⟨λf=>by simp at f,λr=>by exfalso;exact of_decide_eq_false q2 r.cells⟩,hx⟩
 cases q3:decide ((x.gray.length:Int)<=(x.cells.length:Int))
 ·exact(c6y x b w h q0 q1 q2 q3).mono λ_ _ ⟨he,hx⟩=>⟨false,he,⟨λf=>by simp at f,λr=>by exfalso;exact of_decide_eq_false q3 (by have:=r.gray;omega)⟩,hx⟩
 cases q4:uZ x.born 0 1000000000
 ·exact(c6x x b w h q0 q1 q2 q3 q4).mono λ_ _ ⟨he,hx⟩=>⟨false,he,⟨λf=>by simp at f,λr=>by exfalso;exact a0a q4 r.born⟩,hx⟩
 cases q5:uZ x.rounds 0 1000000000
 ·exact(c6w x b w h q0 q1 q2 q3 q4 q5).mono λ_ _ ⟨he,hx⟩=>⟨false,he,⟨λf=>by simp at f,λr=>by exfalso;exact a0a q5 r.rounds⟩,hx⟩
 cases q6:uZ x.forced 0 1000000000
 ·exact(c6v x b w h q0 q1 q2 q3 q4 q5 q6).mono λ_ _ ⟨he,hx⟩=>⟨false,he,⟨λf=>by simp at f,λr=>by exfalso;exact a0a q6 r.forced⟩,hx⟩
 cases q7:uZ x.per 0 64
 ·exact(c6u x b w h q0 q1 q2 q3 q4 q5 q6 q7).mono λ_ _ ⟨he,hx⟩=>⟨false,he,⟨λf=>by simp at f,λr=>by exfalso;exact a0a q7 r.per⟩,hx⟩
 cases q8:uZ x.start 0 4000
 ·exact(c6r x b w h q0 q1 q2 q3 q4 q5 q6 q7 q8).mono λ_ _ ⟨he,hx⟩=>⟨false,he,⟨λf=>by simp at f,λr=>by exfalso;exact a0a q8 r.start⟩,hx⟩
 cases q9:uZ x.phase 0 6
 ·exact(c6q x b w h q0 q1 q2 q3 q4 q5 q6 q7 q8 q9).mono λ_ _ ⟨he,hx⟩=>⟨false,he,⟨λf=>by simp at f,λr=>by exfalso;exact a0a q9 r.phase⟩,hx⟩
 cases q10:uZ x.hand 0 (x.cells.length:Int)
 ·exact(c3k x b w h q0 q1 q2 q3 q4 q5 q6 q7 q8 q9 q10).mono λ_ _ ⟨he,hx⟩=>⟨false,he,⟨λf=>by simp at f,λr=>by exfalso;exact a0a q10 r.hand⟩,hx⟩
 cases q11:uZ x.sub 0 200
 ·exact(c3j x b w h q0 q1 q2 q3 q4 q5 q6 q7 q8 q9 q10 q11).mono λ_ _ ⟨he,hx⟩=>⟨false,he,⟨λf=>by simp at f,λr=>by exfalso;exact a0a q11 r.sub⟩,hx⟩
 exact(c3i x b w h q0 q1 q2 q3 q4 q5 q6 q7 q8 q9 q10 q11).mono λ_ _ ⟨he,hx⟩=>⟨true,he,⟨λ_=>⟨uJ q0,by simp at q1;omega,of_decide_eq_true q2,by have:=of_decide_eq_true q3;omega,uJ q4,uJ q5,uJ q6,uJ q7,uJ q8,uJ q9,uJ q10,uJ q11⟩,λ_=>rfl⟩,hx⟩
theorem c3m:(Tryz.prog.info? 124).map (λi=>(i.zero,i.size,i.bytes))=some (some (.agg #[iv 0,.pointer none]),2,16):=by kernel_rfl
theorem mkNodes(n:Nat)(hn:n<=1048576)(w:World):∃z,(Instr.makeSlice 117 (.int .i64 n) (.int .i64 n)).run Tryz.prog w=.ok (.slice (some ⟨w.heap.size,0,none⟩) n n) (w.alloc (.cells (madeCells z (n*2)) 124)):=by
 obtain⟨i0,hi,hz0,hz1,hz2⟩:=info_parts c3m;have h:=run_make (P:=Tryz.prog) w 117 124 i0 _ Tryz.underlying117 hi hz0 .i64 .i64 n n (by omega) (Int.le_refl _) (by rw[hz2];omega) (by omega);rw[hz1] at h;simp only [Int.toNat_natCast] at h;exact⟨_,h⟩
theorem c7a(x:Hp)(w:World)(b:Nat)
  (hc:∀o v,#[iv x.room,iv x.used,iv x.born,.slice ar x.regs.length kr,.slice ac x.cells.length kc,iv x.phase,iv x.hand,iv x.sub,.slice ag x.gray.length kg,iv x.per,iv x.start,iv x.rounds,iv x.forced][o]?=some v->w.cell? ⟨b,o,none⟩=some v)
  (hR:SlW w (.slice ar x.regs.length kr) x.regs) (hC:SlC w (.slice ac x.cells.length kc) x.cells) (hG:SlI w (.slice ag x.gray.length kg) x.gray):HAt w b x ar kr ac kc ag kg:=by
 obtain⟨a1,k1,v1,l1,R⟩:=hR;obtain⟨a2,k2,v2,l2,C⟩:=hC;obtain⟨a3,k3,v3,l3,G⟩:=hG;simp only [Value.slice.injEq] at v1 v2 v3;obtain⟨rfl,_,rfl⟩:=v1;obtain⟨rfl,_,rfl⟩:=v2;obtain⟨rfl,_,rfl⟩:=v3;refine⟨hc 0 _ rfl,hc 1 _ rfl,hc 2 _ rfl,hc 3 _ rfl,hc 4 _ rfl,hc 5 _ rfl,hc 6 _ rfl,hc 7 _ rfl,hc 8 _ rfl,hc 9 _ rfl,hc 10 _ rfl,hc 11 _ rfl,hc 12 _ rfl,l1,l2,l3,R,?_,G⟩;intro i hi;obtain⟨b',o,a,p⟩:=C i hi;rw[Hp.c_eq] at p;exact⟨b',o,a,p⟩
structure Opn(w wr:World)(x:Hp)(bx b bn k j:Nat)(ar:Option Addr)(kr:Nat)(ac:Option Addr)(kc:Nat)(ag:Option Addr)(kg:Nat)(vf:Value)(F:List Int):Prop where
 e:Ext w wr
 hb:w.heap.size<=bx/\bx<b/\b<bn/\bn<wr.heap.size
 x4:wr.cell? ⟨bx,4,none⟩=some (.slice ac x.cells.length kc)
 c:∀o v,#[iv x.room,iv x.used,iv x.born,.slice ar x.regs.length kr,.slice ac x.cells.length kc,iv x.phase,iv x.hand,iv x.sub,.slice ag x.gray.length kg,iv x.per,iv x.start,iv x.rounds,iv x.forced][o]?=some v->wr.cell? ⟨b,o,none⟩=some v
 n13:wr.cell? ⟨b,13,none⟩=some (.slice (some ⟨bn,0,none⟩) x.cells.length x.cells.length)
 n:∀i,i<k->∃bc oc,ac=some ⟨bc,oc,none⟩/\wr.cell? ⟨bn,i*2,none⟩=some (iv i)/\wr.cell? ⟨bn,i*2+1,none⟩=some (.pointer (some ⟨bc,oc+i*8,none⟩))
 o:∀j,j<x.cells.length*2->yU wr bn j
 f:eX wr (bn+1) b 14 vf F
 fo:Ho F
 fp:F.Perm (a7n x j)
theorem Opn.len(h:Opn w wr x bx b bn k j ar kr ac kc ag kg vf F):F.length<=j:=by
 rw[h.fp.length_eq];exact a2q _ _ _
theorem Opn.same(h:Opn w wr x bx b bn k j ar kr ac kc ag kg vf F)(h1:w'.heap=wr.heap)(h2:w'.os=wr.os)(h3:w'.tape=wr.tape)(h4:w'.output=wr.output):
  Opn w w' x bx b bn k j ar kr ac kc ag kg vf F:=by
 have e:Ext wr w':=⟨h2,h3,h4,by rw[h1];exact Nat.le_refl _,λk _=>by rw[h1]⟩;exact⟨h.e.trans e,⟨h.hb.1,h.hb.2.1,h.hb.2.2.1,by rw[h1];exact h.hb.2.2.2⟩,e.keep h.x4,λo v q=>e.keep (h.c o v q),e.keep h.n13,λi hi=>let ⟨bc,oc,a,p,q⟩:=h.n i hi;⟨bc,oc,a,e.keep p,e.keep q⟩,λj hj=>(h.o j hj).ext e,h.f.ext e,h.fo,h.fp⟩
theorem Opn.lay{oc:Nat}(h:Opn w wr x bx b bn k k ar kr ac kc ag kg vf F)(hac:ac=some ⟨bc,oc,none⟩)(hk:k<x.cells.length):
  Opn w ((wr.setCell ⟨bn,k*2,none⟩ (iv k)).setCell ⟨bn,k*2+1,none⟩ (.pointer (some ⟨bc,oc+k*8,none⟩))) x bx b bn (k+1) k ar kr ac kc ag kg vf F:=by
 obtain⟨hb1,hb2,hb3,hb4⟩:=h.hb;have o1:=h.o (k*2) (by omega);have o2:=h.o (k*2+1) (by omega)
 have far:∀B O,B≠bn->((wr.setCell ⟨bn,k*2,none⟩ (iv k)).setCell ⟨bn,k*2+1,none⟩ (.pointer (some ⟨bc,oc+k*8,none⟩))).cell? ⟨B,O,none⟩=wr.cell? ⟨B,O,none⟩:=λB O hB=>by
  rw[uC _ (.inl (λe=>hB e.symm)),uC _ (.inl (λe=>hB e.symm))]
 have farb:∀B:Nat,B≠bn->((wr.setCell ⟨bn,k*2,none⟩ (iv k)).setCell ⟨bn,k*2+1,none⟩ (.pointer (some ⟨bc,oc+k*8,none⟩))).heap[B]?=wr.heap[B]?:=λB hB=>by
  rw[Below.heap_setCell _ _ _ _ (show B≠bn from hB),Below.heap_setCell _ _ _ _ (show B≠bn from hB)]
 refine⟨(h.e.setCell (by show w.heap.size<=bn;omega) _).setCell (by show w.heap.size<=bn;omega) _,⟨hb1,hb2,hb3,by simpa [World.setCell] using hb4⟩,by rw[far _ _ (by omega)];exact h.x4,λo v q=>by rw[far _ _ (by omega)];exact h.c o v q,by rw[far _ _ (by omega)];exact h.n13,λi hi=>?_,λj hj=>((h.o j hj).set _ _).set _ _,⟨by rw[far _ _ (by omega)];exact h.f.hd,?_,?_,h.f.apart⟩,h.fo,h.fp⟩
 ·by_cases e:i=k
  ·subst e;refine⟨bc,oc,hac,?_,(o2.set _ _).same _⟩;rw[uC _ (.inr (by omega))];exact o1.same _
  ·obtain⟨bc',oc',a,p,q⟩:=h.n i (by omega);refine⟨bc',oc',a,?_,?_⟩
   ·rw[uC _ (.inr (by omega)),uC _ (.inr (by omega))];exact p
   ·rw[uC _ (.inr (by omega)),uC _ (.inr (by omega))];exact q
 ·rw[World.frozen?_setCell,World.frozen?_setCell];exact h.f.hf
 ·exact uQ h.f.own (λB hB=>farb B (by have:=(h.f.rlt B hB).1;omega))
theorem Opn.skip(h:Opn w wr x bx b bn (k+1) k ar kr ac kc ag kg vf F)(hs:yY x 0 k=false):
  Opn w wr x bx b bn (k+1) (k+1) ar kr ac kc ag kg vf F:=
 ⟨h.e,h.hb,h.x4,h.c,h.n13,h.n,h.o,h.f,h.fo,by unfold a7n;rw[a2p _ _ _ hs];exact h.fp⟩
theorem Opn.put{v':Value}{F':List Int}(h:Opn w wr x bx b bn (k+1) k ar kr ac kc ag kg vf F)(hs:yY x 0 k=true)
  (l:eX w' (bn+1) b 14 v' F') (o:Ho F') (p:F'.Perm ((k:Int)::F)) (q:QFr b 14 vf v' wr w'):Opn w w' x bx b bn (k+1) (k+1) ar kr ac kc ag kg v' F':=by
 obtain⟨hb1,hb2,hb3,hb4⟩:=h.hb;have hv:∀B,B<=bn->vf.ownBlock≠some B:=λB hB e=>by have:=(h.f.rlt B e).1;omega
 refine⟨q.ext h.e (by omega) (λB hB=>by have:=(h.f.rlt B hB).1;omega),⟨hb1,hb2,hb3,Nat.lt_of_lt_of_le hb4 q.size⟩,q.cells h.x4 (by omega) (hv _ (by omega)),λo v hq=>?_,by rw[q.hdr 13 (by omega)];exact h.n13,λi hi=>?_,λj hj=>?_,l,o,?_⟩
 ·have ho:o<13:=by
   rcases Nat.lt_or_ge o 13 with h' | h'
   ·exact h'
   ·rw[Array.getElem?_eq_none (by simpa using h')] at hq;cases hq
  rw[q.hdr o (by omega)];exact h.c o v hq
 ·obtain⟨bc,oc,a,p1,p2⟩:=h.n i hi;exact⟨bc,oc,a,q.cells p1 (by omega) (hv _ (by omega)),q.cells p2 (by omega) (hv _ (by omega))⟩
 ·obtain⟨⟨v,h1⟩,h2⟩:=h.o j hj;refine⟨⟨v,q.cells h1 (by omega) (hv _ (by omega))⟩,?_⟩;rw[World.frozen?_of_block (w:=wr) (a:=⟨bn,j,none⟩) (q.block bn hb4 (by omega) (hv _ (by omega)))];exact h2
 ·unfold a7n;rw[a2o _ _ _ hs];exact(p.trans (h.fp.cons _)).trans (List.perm_append_singleton _ _).symm
theorem Opn.done(h:Opn w wr x bx b bn x.cells.length x.cells.length ar kr ac kc ag kg vf F)
  (hR:SlW w (.slice ar x.regs.length kr) x.regs) (hC:SlC w (.slice ac x.cells.length kc) x.cells) (hG:SlI w (.slice ag x.gray.length kg) x.gray) :
  VAt wr b x ar kr ac kc ag kg (some ⟨bn,0,none⟩) x.cells.length/\FAt wr b x (bn+1) vf F:=
 ⟨⟨c7a x wr b h.c (SlW.ext h.e hR) (SlC.ext h.e hC) (SlI.ext h.e hG),h.n13,λi hi=>let ⟨bc,oc,a,p,q⟩:=h.n i hi;⟨bn,0,bc,oc,rfl,a,by simpa using p,by simpa using q⟩⟩,h.f,h.fo,h.fp⟩
theorem b7s(x:Hp)(w:World)(ar:Option Addr)(kr:Nat)(ac:Option Addr)(kc:Nat)(ag:Option Addr)(kg:Nat):
  ∀o v,#[iv x.room,iv x.used,iv x.born,.slice ar x.regs.length kr,.slice ac x.cells.length kc,iv x.phase,iv x.hand,iv x.sub,.slice ag x.gray.length kg,iv x.per,iv x.start,iv x.rounds,iv x.forced][o]?=some v->((w.alloc (.cells #[iv x.room,iv x.used,iv x.born,.slice ar x.regs.length kr,.slice ac x.cells.length kc,iv x.phase,iv x.hand,iv x.sub,.slice ag x.gray.length kg,iv x.per,iv x.start,iv x.rounds,iv x.forced] 34)).alloc (.cells #[iv x.room,iv x.used,iv x.born,.slice ar x.regs.length kr,.slice ac x.cells.length kc,iv x.phase,iv x.hand,iv x.sub,.slice ag x.gray.length kg,iv x.per,iv x.start,iv x.rounds,iv x.forced,.slice none 0 0,.slice none 0 0] 121)).cell? ⟨w.heap.size+1,o,none⟩=some v:=λo v hv=>by
 have ho:o<13:=by
  rcases Nat.lt_or_ge o 13 with h' | h'
  ·exact h'
  ·rw[Array.getElem?_eq_none (by simpa using h')] at hv;cases hv
 match o,ho with
 | 0,_ | 1,_ | 2,_ | 3,_ | 4,_ | 5,_ | 6,_ | 7,_ | 8,_ | 9,_ | 10,_ | 11,_ | 12,_=>simp [go_sem];exact Option.some.inj hv
theorem SlC.nth(h:SlC w (.slice ac x.cells.length kc) x.cells)(k:Nat)(hk:k<x.cells.length):∃bc oc,ac=some ⟨bc,oc,none⟩/\bc<w.heap.size/\ClAt w bc (oc+k*8) (x.c k):=by
 obtain⟨_,_,v,_,C⟩:=h;obtain⟨b',o',a,p⟩:=C k hk;rw[Hp.c_eq] at p;simp only [Value.slice.injEq] at v;exact⟨b',o',v.1.trans a,let ⟨_,p0,_⟩:=p;uL p0,p⟩
theorem Opn.start(z:Array Value)
  (hq:Ext ((w.alloc (.cells #[iv x.room,iv x.used,iv x.born,.slice ar x.regs.length kr,.slice ac x.cells.length kc,iv x.phase,iv x.hand,iv x.sub,.slice ag x.gray.length kg,iv x.per,iv x.start,iv x.rounds,iv x.forced] 34)).alloc (.cells #[iv x.room,iv x.used,iv x.born,.slice ar x.regs.length kr,.slice ac x.cells.length kc,iv x.phase,iv x.hand,iv x.sub,.slice ag x.gray.length kg,iv x.per,iv x.start,iv x.rounds,iv x.forced,.slice none 0 0,.slice none 0 0] 121)) w1) :
  Opn w ((w1.alloc (.cells (madeCells z (x.cells.length*2)) 124)).setCell ⟨w.heap.size+1,13,none⟩ (.slice (some ⟨w1.heap.size,0,none⟩) x.cells.length x.cells.length)) x w.heap.size (w.heap.size+1) w1.heap.size 0 0 ar kr ac kc ag kg (.slice none 0 0) []:=by
 have xe:Ext w ((w.alloc (.cells #[iv x.room,iv x.used,iv x.born,.slice ar x.regs.length kr,.slice ac x.cells.length kc,iv x.phase,iv x.hand,iv x.sub,.slice ag x.gray.length kg,iv x.per,iv x.start,iv x.rounds,iv x.forced] 34)).alloc (.cells #[iv x.room,iv x.used,iv x.born,.slice ar x.regs.length kr,.slice ac x.cells.length kc,iv x.phase,iv x.hand,iv x.sub,.slice ag x.gray.length kg,iv x.per,iv x.start,iv x.rounds,iv x.forced,.slice none 0 0,.slice none 0 0] 121)):=((Ext.refl w).alloc _).alloc _;have hsz:w.heap.size+2<=w1.heap.size:=by have:=hq.size;simp at this;omega
 have old:∀o v,w1.cell? ⟨w.heap.size+1,o,none⟩=some v->o≠13->((w1.alloc (.cells (madeCells z (x.cells.length*2)) 124)).setCell ⟨w.heap.size+1,13,none⟩ (.slice (some ⟨w1.heap.size,0,none⟩) x.cells.length x.cells.length)).cell? ⟨w.heap.size+1,o,none⟩=some v:=λo v h ho=>by
  rw[uC _ (.inr (λe=>ho e.symm))];exact((Ext.refl w1).alloc _).keep h
 have c13:(w1.alloc (.cells (madeCells z (x.cells.length*2)) 124)).cell? ⟨w.heap.size+1,13,none⟩=some (.slice none 0 0):=((Ext.refl w1).alloc _).keep (hq.keep (by simp [go_sem]));have c14:w1.cell? ⟨w.heap.size+1,14,none⟩=some (.slice none 0 0):=hq.keep (by simp [go_sem])
 have f14:w1.frozen? ⟨w.heap.size+1,14,none⟩=false:=by
  rw[hq.frozen (p:=⟨w.heap.size+1,14,none⟩) (by simp)];simp [go_sem]
 refine⟨((xe.trans hq).alloc _).setCell (by show _<=w.heap.size+1;omega) _,⟨Nat.le_refl _,by omega,by omega,by simp [World.setCell]⟩,?_,λo v hv=>old o v (hq.keep (b7s x w ar kr ac kc ag kg o v hv)) ?_,World.cell?_setCell_same _ _ _ c13,λi hi=>by omega,λj hj=>(a6t _ _ _ _ _ hj).set _ _,eX.nil (old 14 _ c14 (by omega)) ?_,Ho.nil,List.Perm.refl _⟩
 ·rw[uC _ (.inl (by omega))];exact((Ext.refl w1).alloc _).keep (hq.keep (by simp [go_sem]))
 ·intro e;rw[e] at hv;simp at hv
 ·rw[World.frozen?_setCell,((Ext.refl w1).alloc _).frozen (p:=⟨w.heap.size+1,14,none⟩) (by show w.heap.size+1<w1.heap.size;omega)];exact f14
theorem b7t(x:Hp)(w:World)(hR:SlW w (.slice ar x.regs.length kr) x.regs)(hC:SlC w (.slice ac x.cells.length kc) x.cells)(hG:SlI w (.slice ag x.gray.length kg) x.gray):
  Calls Tryz.prog 67 #[x.v (.slice ar x.regs.length kr) (.slice ac x.cells.length kc) (.slice ag x.gray.length kg)] w λe w'=>∃b,Hid (e=.returned (.pointer (some ⟨b,0,none⟩)))/\Ext w w'/\Hid ((¬R1 x/\HAt w' b x ar kr ac kc ag kg)\/(R1 x/\∃bx bn vf F,Opn w w' x bx b bn x.cells.length x.cells.length ar kr ac kc ag kg vf F)):=by
 have HSL:=uU (And.intro hR (And.intro hC hG));have lc:x.cells.length<=35184372088832:=let ⟨_,_,_,l,_⟩:=hC;l;clear hR hC hG;go_enter Tryz.func67,Tryz.ntmps67;go_wp2_with fail;have xe:Ext w ((w.alloc (.cells #[iv x.room,iv x.used,iv x.born,.slice ar x.regs.length kr,.slice ac x.cells.length kc,iv x.phase,iv x.hand,iv x.sub,.slice ag x.gray.length kg,iv x.per,iv x.start,iv x.rounds,iv x.forced] 34)).alloc (.cells #[iv x.room,iv x.used,iv x.born,.slice ar x.regs.length kr,.slice ac x.cells.length kc,iv x.phase,iv x.hand,iv x.sub,.slice ag x.gray.length kg,iv x.per,iv x.start,iv x.rounds,iv x.forced,.slice none 0 0,.slice none 0 0] 121)):=((Ext.refl w).alloc _).alloc _;have hh:=c7a x _ (w.heap.size+1) (b7s x w ar kr ac kc ag kg) (SlW.ext xe HSL.1) (SlC.ext xe HSL.2.1) (SlI.ext xe HSL.2.2);refine(a3w x (w.heap.size+1) _ hh).mono ?_;rintro e w1 ⟨r,rfl,hr,hq⟩;have X1:=uU (xe.trans hq);cases r
 ·have N:=uU (show ¬R1 x from λr=>by have:=hr.2 r;simp at this);have H1:=uU (hh.ext hq);clear hr hq hh xe;go_wp2_with fail;go_ret;exact⟨w.heap.size+1,rfl,X1,.inl ⟨N,H1⟩⟩
 have Y:=uU (hr.1 rfl);have hn8:x.cells.length<=8000:=by have:=Y.room;have:=Y.cells;omega
 have hsz:w.heap.size+2<=w1.heap.size:=by have:=hq.size;simp at this;omega
 have hs0:w.heap.size<w1.heap.size:=by omega
 have hs1:w.heap.size+1<w1.heap.size:=by omega
 obtain⟨z,hmk⟩:=mkNodes x.cells.length (by omega) w1;have s0:=Opn.start z hq;rw[World.setCell_alloc_past _ _ _ _ hs1] at s0;have S0:=uU s0;clear s0;have b4:w1.cell? ⟨w.heap.size,4,none⟩=some (.slice ac x.cells.length kc):=hq.keep (by simp [go_sem]);have b13:w1.cell? ⟨w.heap.size+1,13,none⟩=some (.slice none 0 0):=hq.keep (by simp [go_sem])
 have g13:w1.frozen? ⟨w.heap.size+1,13,none⟩=false:=by
  rw[hq.frozen (p:=⟨w.heap.size+1,13,none⟩) (by simp)];simp [go_sem]
 clear hr hh xe hq;go_wp2_with fail;go_loopw [22] (λi wr=>∃(k:Nat) (vf:Value) (F:List Int),k<=x.cells.length/\i=.int .i64 k/\Opn w wr x w.heap.size (w.heap.size+1) w1.heap.size k k ar kr ac kc ag kg vf F) (λi _=>x.cells.length-(intOf i).toNat)
 case atStart=>exact⟨0,_,_,Nat.zero_le _,rfl,S0⟩
 case round=>
  clear S0 b4 b13 g13 hmk;obtain⟨k,vf,F,hk,rfl,hop⟩:=hrel;have HO:=uU hop;by_cases hlt:k<x.cells.length
  ·obtain⟨bc,oc,hac,hbc,vp,p0',_⟩:=SlC.nth HSL.2.1 k hlt;have P0:=uU p0';clear p0';have q4:=hop.x4;have q13:=hop.n13;rw[hac] at q4;obtain⟨⟨u1,v1⟩,f1⟩:=hop.o (k*2) (by omega);obtain⟨⟨u2,v2⟩,f2⟩:=hop.o (k*2+1) (by omega);have hk0:(0:Int)<=(k:Int):=by omega
   have hk1:(k:Int)<(x.cells.length:Int):=by omega
   have hbw:w1.heap.size<wr.heap.size:=hop.hb.2.2.2;have L2:=uU (hop.lay hac hlt);have HAC:=uU hac;clear hop hac;go_wp2_with fail
   go_region
   generalize hW:((wr.setCell ⟨w1.heap.size,k*2,none⟩ (.int .i64 k)).setCell ⟨w1.heap.size,k*2+1,none⟩ (.pointer (some ⟨bc,oc+k*8,none⟩))).drew=W2;have L3:=uU (L2.same (w':=W2) (by rw[<-hW];rfl) (by rw[<-hW];rfl) (by rw[<-hW];rfl) (by rw[<-hW];rfl));have q4':=L3.x4;rw[uH HAC] at q4';have p0:=L3.e.keep P0;have hlen:F.length<=1000000000:=by have:=L3.len;omega
   have hbs:w1.heap.size+1<=W2.heap.size:=L3.hb.2.2.2;clear hW L2 q4 q13 v1 v2 f1 f2 hbw;cases s0:((x.c k).st == 0)
   ·have L4:=uU (L3.skip s0);go_wp2_with fail;go_roundw
    case rel=>exact⟨k+1,vf,F,by omega,by go_num,L4⟩
    case measure=>simp [intOf];omega
   ·go_wp2_with fail;refine(b2j _ (w1.heap.size+1) (w.heap.size+1) 14 vf F (k:Int) L3.f hbs L3.fo (by omega)).mono ?_;rintro e w3 ⟨rfl,v3,F3,l3,o3,p3,q3⟩;have L4:=uU (L3.put s0 l3 o3 p3 q3);clear l3 o3 p3 q3;go_wp2_with fail;go_roundw
    case rel=>exact⟨k+1,v3,F3,by omega,by go_num,L4⟩
    case measure=>simp [intOf];omega
  ·have hk2:k=x.cells.length:=by omega
   subst hk2;have D:=uU hop;have E:=uU hop.e;clear hop hk hlt;go_wp2_with fail;go_ret;exact⟨w.heap.size+1,rfl,E,.inr ⟨Y,_,_,_,_,D⟩⟩
theorem c7b(x:Hp)(w:World)(hR:SlW w (.slice ar x.regs.length kr) x.regs)(hC:SlC w (.slice ac x.cells.length kc) x.cells)(hG:SlI w (.slice ag x.gray.length kg) x.gray):
  Calls Tryz.prog 67 #[x.v (.slice ar x.regs.length kr) (.slice ac x.cells.length kc) (.slice ag x.gray.length kg)] w λe w'=>∃b,Hid (e=.returned (.pointer (some ⟨b,0,none⟩)))/\Ext w w'/\Hid ((¬R1 x/\HAt w' b x ar kr ac kc ag kg)\/(R1 x/\∃an kn base vf F,VAt w' b x ar kr ac kc ag kg an kn/\FAt w' b x base vf F/\Hid (∃bn on,an=some ⟨bn,on,none⟩))):=
 (b7t x w hR hC hG).mono λ_ _ ⟨b,he,hx,h⟩=>⟨b,he,hx,by
  rcases h with h | ⟨h1,bx,bn,vf,F,h2⟩
  ·exact .inl h
  ·exact .inr ⟨h1,_,_,_,_,_,(h2.done hR hC hG).1,(h2.done hR hC hG).2,⟨_,_,rfl⟩⟩⟩
abbrev ndp(bn i:Nat):Value:=.pointer (some ⟨bn,i*2,none⟩)
structure SSep(x:Hp)(role:Nat->Nat)(b br:Nat)(cB:Nat->Nat)(bn:Nat)(pb pk:Nat->Nat)(vf vk:Value):Prop where
 b:role b=0
 n:role bn=1
 r:0<x.regs.length->role br=2
 c:∀q,q<x.cells.length->role (cB q)=3
 f:∀q,vf.ownBlock=some q->role q=4
 k:∀q,vk.ownBlock=some q->role q=5
 p:∀q,q<x.cells.length->0<pk q->role (pb q)=6+q
structure RAt(w:World)(b bn hd:Nat)(G:List Int):Prop where
 h0:hd<4000
 hl:G.length<=4000
 r0:w.cell? ⟨b,4015,none⟩=some (iv hd)
 r1:w.cell? ⟨b,4016,none⟩=some (iv G.length)
 rg:∀i (hi:i<G.length),w.cell? ⟨b,15+(hd+i) % 4000,none⟩=some (ndp bn G[i].toNat)
 ro:∀j,j<4000->∃v,w.cell? ⟨b,15+j,none⟩=some v
def NdB(w:World)(bn kn:Nat):Prop:=bn<w.heap.size/\∀j,j<kn*2->yU w bn j
theorem NdB.of(h:NdB w bn kn)(e:w'.heap[bn]?=w.heap[bn]?)(hs:w.heap.size<=w'.heap.size):NdB w' bn kn:=
 ⟨Nat.lt_of_lt_of_le h.1 hs,λj hj=>by
  obtain⟨⟨v,hv⟩,hf⟩:=h.2 j hj;exact⟨⟨v,(World.cell?_of_block (a:=⟨bn,j,none⟩) e).trans hv⟩,(World.frozen?_of_block (a:=⟨bn,j,none⟩) e).trans hf⟩⟩
structure SB(B:Nat)(w:World)(b:Nat)(x:Hp)(ar:Option Addr)(kr:Nat)(v4 v8:Value)(br:Nat)(cB cO:Nat->Nat)(bn:Nat)(kn hd:Nat)(vf:Value)(F:List Int)(vk:Value)(K:List Nat):Prop where
 bx:dW w b x (.slice ar x.regs.length kr) v4 v8
 ha:0<x.regs.length->ar=some ⟨br,0,none⟩
 n13:w.cell? ⟨b,13,none⟩=some (.slice (some ⟨bn,0,none⟩) x.cells.length kn)
 nd:∀i,i<x.cells.length->w.cell? ⟨bn,i*2,none⟩=some (iv i)/\w.cell? ⟨bn,i*2+1,none⟩=some (.pointer (some ⟨cB i,cO i,none⟩))
 fr:eX w B b 14 vf F
 rg:RAt w b bn hd x.gray
 k0:w.cell? ⟨b,4017,none⟩=some vk
 kp:w.ownsRow B 126 1 vk K.length (K.map (ndp bn))
 nb:Nf1 b w
 lo:B<=b/\B<=bn/\NdB w bn kn
structure SAt[Inhabited uN](B:Nat)(w:World)(b:Nat)(x:Hp)(ar:Option Addr)(kr:Nat)(v4 v8:Value)(br:Nat)(cB cO:Nat->Nat)(bn:Nat)(pb:Nat->Nat)(pa:Nat->Option Addr)(pk:Nat->Nat)(kn hd:Nat)(vf:Value)(F:List Int)(vk:Value)(K:List Nat)(role:Nat->Nat):Prop where
 sb:SB B w b x ar kr v4 v8 br cB cO bn kn hd vf F vk K
 rw:Rwn B w x br cB cO pb pa pk
 sp:SSep x role b br cB bn pb pk vf vk
 pr:Prt w role
theorem b2x(a:Nat):((a:Int).tmod 4000)=((a % 4000:Nat):Int):=by
 rw[Int.tmod_eq_emod_of_nonneg (by omega)];omega
theorem RAt.of(h:RAt w b bn hd G)(e:∀o,15<=o->o<4017->w'.cell? ⟨b,o,none⟩=w.cell? ⟨b,o,none⟩):RAt w' b bn hd G:=
 ⟨h.h0,h.hl,(e 4015 (by omega) (by omega)).trans h.r0,(e 4016 (by omega) (by omega)).trans h.r1,λi hi=>(e _ (by omega) (by have:(hd+i) % 4000<4000:=Nat.mod_lt _ (by omega);omega)).trans (h.rg i hi),λj hj=>let ⟨v,q⟩:=h.ro j hj;⟨v,(e _ (by omega) (by omega)).trans q⟩⟩
theorem RAt.block(h:RAt w b bn hd G)(e:w'.heap[b]?=w.heap[b]?):RAt w' b bn hd G:=h.of λo _ _=>World.cell?_of_block (a:=⟨b,o,none⟩) e
theorem RAt.put{m:Nat}(h:RAt w b bn hd G)(hl:G.length<4000)(hm:m=(hd+G.length) % 4000):
  RAt ((w.setCell ⟨b,15+m,none⟩ (ndp bn i)).setCell ⟨b,4016,none⟩ (iv (G.length+1))) b bn hd (G++[(i:Int)]):=by
 have hm4:m<4000:=by rw[hm];exact Nat.mod_lt _ (by omega)
 refine⟨h.h0,by simp;omega,?_,?_,λk hk=>?_,λj hj=>?_⟩
 ·rw[uC _ (.inr (by omega)),uC _ (.inr (by omega))];exact h.r0
 ·have:(w.setCell ⟨b,15+m,none⟩ (ndp bn i)).cell? ⟨b,4016,none⟩=some (iv G.length):=by rw[uC _ (.inr (by omega))];exact h.r1
  rw[World.cell?_setCell_same _ _ _ this];simp
 ·have hk2:(hd+k) % 4000<4000:=Nat.mod_lt _ (by omega);rw[uC _ (.inr (by omega))];by_cases e:k=G.length
  ·subst e;obtain⟨v,hv⟩:=h.ro m hm4;rw[<-hm,World.cell?_setCell_same _ _ _ hv];simp
  ·have hk3:k<G.length:=by simp at hk;omega
   rw[uC _ (.inr (by have:=h.h0;omega)),h.rg k hk3];simp [hk3]
 ·rw[uC _ (.inr (by omega))];obtain⟨v,hv⟩:=h.ro j hj;exact cell?_setCell_some hv
theorem a0w(w:World)(p:Addr):w.drew.cell? p=w.cell? p:=World.cell?_of_block (a:=p) rfl
theorem SB.same(h:SB B w b x ar kr v4 v8 br cB cO bn kn hd vf F vk K)(hs:w.heap.size<=w'.heap.size)(hb:w'.heap[b]?=w.heap[b]?)(hn:w'.heap[bn]?=w.heap[bn]?)(hf:∀q,vf.ownBlock=some q->w'.heap[q]?=w.heap[q]?)(hk:∀q,vk.ownBlock=some q->w'.heap[q]?=w.heap[q]?):SB B w' b x ar kr v4 v8 br cB cO bn kn hd vf F vk K where
 bx:=h.bx.block hb
 ha:=h.ha
 n13:=(World.cell?_of_block (a:=⟨b,13,none⟩) hb).trans h.n13
 nd:=λi hi=>⟨(World.cell?_of_block (a:=⟨bn,_,none⟩) hn).trans (h.nd i hi).1,(World.cell?_of_block (a:=⟨bn,_,none⟩) hn).trans (h.nd i hi).2⟩
 fr:=⟨(World.cell?_of_block (a:=⟨b,14,none⟩) hb).trans h.fr.hd,(World.frozen?_of_block (a:=⟨b,14,none⟩) hb).trans h.fr.hf,uQ h.fr.own hf,h.fr.apart⟩
 rg:=h.rg.block hb
 k0:=(World.cell?_of_block (a:=⟨b,4017,none⟩) hb).trans h.k0
 kp:=uQ h.kp hk
 nb:=hY h.nb hb hs
 lo:=⟨h.lo.1,h.lo.2.1,h.lo.2.2.of hn hs⟩
theorem SAt.ext[Inhabited uN](h:SAt B w b x ar kr v4 v8 br cB cO bn pb pa pk kn hd vf F vk K role)(e:Ext w w'):SAt B w' b x ar kr v4 v8 br cB cO bn pb pa pk kn hd vf F vk K role:=
 ⟨h.sb.same e.size (e.block b h.sb.nb.1) (e.block bn h.sb.lo.2.2.1) (λq hq=>e.block q (h.sb.fr.own.lt q hq).2) (λq hq=>e.block q (h.sb.kp.lt q hq).2),h.rw.ext e,h.sp,h.pr.of (λq hq _=>e.block q hq) (λ_ _ h=>h)⟩
theorem SAt.push[Inhabited uN]{W w5:World}{g cap:Nat}(h:SAt B W b x ar kr v4 v8 br cB cO bn pb pa pk kn hd vf F vk K role)(hg:W.grownBy w5 vk.ownBlock)(h5:w5.ownsRow B 126 1 (.slice (some ⟨g,0,none⟩) (K.length+1) cap) (K.length+1) (K.map (ndp bn)++[ndp bn i]))(hat:vk.ownBlock=some g\/g=W.heap.size):
  SAt B (w5.setCell ⟨b,4017,none⟩ (.slice (some ⟨g,0,none⟩) (K.length+1) cap)) b x ar kr v4 v8 br cB cO bn pb pa pk kn hd vf F (.slice (some ⟨g,0,none⟩) (K.length+1) cap) (K++[i]) (λq=>if q=g then 5 else role q):=by
 have hgb:∀q,q<W.heap.size->role q≠5->q≠g:=λq hq hr e=>by
  rcases hat with a | a
  ·exact hr (by rw[e];exact h.sp.k g a)
  ·omega
 have far:∀q,q<W.heap.size->role q≠5->w5.heap[q]?=W.heap[q]?:=λq hq hr=>hg.block q hq (λe=>hr (h.sp.k q e.symm))
 have hb:=h.sb.nb.1;have rb:role b≠5:=by rw[h.sp.b];omega
 have fb:=far b hb rb;have nbg:=hgb b hb rb;have far2:∀q,q<W.heap.size->role q≠5->q≠b->(w5.setCell ⟨b,4017,none⟩ (.slice (some ⟨g,0,none⟩) (K.length+1) cap)).heap[q]?=W.heap[q]?:=λq hq hr hne=>(Below.heap_setCell _ _ _ _ hne).trans (far q hq hr)
 have cb:∀o,o≠4017->(w5.setCell ⟨b,4017,none⟩ (.slice (some ⟨g,0,none⟩) (K.length+1) cap)).cell? ⟨b,o,none⟩=W.cell? ⟨b,o,none⟩:=λo ho=>(uC _ (.inr (λe=>ho e.symm))).trans (World.cell?_of_block (a:=⟨b,o,none⟩) fb)
 have hsz:W.heap.size<=(w5.setCell ⟨b,4017,none⟩ (.slice (some ⟨g,0,none⟩) (K.length+1) cap)).heap.size:=by have:=hg.size;simpa [World.setCell] using this
 have rn:role bn≠5:=by rw[h.sp.n];omega
 have nnb:bn≠b:=λe=>by have h1:=h.sp.n;have h2:=h.sp.b;rw[e] at h1;omega
 have fn:=far2 bn h.sb.lo.2.2.1 rn nnb;have ff:∀q,vf.ownBlock=some q->(w5.setCell ⟨b,4017,none⟩ (.slice (some ⟨g,0,none⟩) (K.length+1) cap)).heap[q]?=W.heap[q]?:=λq hq=>far2 q (h.sb.fr.own.lt q hq).2 (by rw[h.sp.f q hq];omega) (λe=>by have h1:=h.sp.f q hq;have h2:=h.sp.b;rw[e] at h1;omega)
 refine⟨⟨h.sb.bx.of λo ho=>cb o (by omega),h.sb.ha,(cb 13 (by omega)).trans h.sb.n13,λk hk=>⟨(World.cell?_of_block (a:=⟨bn,_,none⟩) fn).trans (h.sb.nd k hk).1,(World.cell?_of_block (a:=⟨bn,_,none⟩) fn).trans (h.sb.nd k hk).2⟩,⟨(cb 14 (by omega)).trans h.sb.fr.hd,?_,uQ h.sb.fr.own ff,h.sb.fr.apart⟩,h.sb.rg.of λo _ h2=>cb o (by omega),?_,?_,?_,⟨h.sb.lo.1,h.sb.lo.2.1,h.sb.lo.2.2.of fn hsz⟩⟩,?_,?_,h.pr.of (λq hq h1=>far2 q hq (by rw[h1];omega) (λe=>by have h2:=h.sp.b;rw[e] at h1;omega)) (λq hq h1=>by(try dsimp only);rw[if_neg (hgb q hq (by rw[h1];omega))];exact h1)⟩
 ·rw[World.frozen?_setCell];exact(World.frozen?_of_block (a:=⟨b,14,none⟩) fb).trans h.sb.fr.hf
 ·exact World.cell?_setCell_same _ _ _ ((World.cell?_of_block (a:=⟨b,4017,none⟩) fb).trans h.sb.k0)
 ·have:=uQ (w':=w5.setCell ⟨b,4017,none⟩ (.slice (some ⟨g,0,none⟩) (K.length+1) cap)) h5 (λq hq=>Below.heap_setCell _ _ _ _ (λe=>nbg (by simp [Value.ownBlock] at hq;rw[hq];exact e.symm)))
  simpa using this
 ·refine⟨Nat.lt_of_lt_of_le hb hsz,λj=>?_⟩;rw[World.frozen?_setCell];exact(World.frozen?_of_block (a:=⟨b,j,none⟩) fb).trans (h.sb.nb.2 j)
 ·exact h.rw.same hsz (λhl=>far2 br (h.rw.nr hl).1.1 (by rw[h.sp.r hl];omega) (λe=>by have h1:=h.sp.r hl;have h2:=h.sp.b;rw[e] at h1;omega)) (λq hq=>far2 (cB q) (h.rw.nc q hq).1.1 (by rw[h.sp.c q hq];omega) (λe=>by have h1:=h.sp.c q hq;have h2:=h.sp.b;rw[e] at h1;omega)) (λq hq hl=>far2 (pb q) (h.rw.pl q hq hl).2.1.1 (by rw[h.sp.p q hq hl];omega) (λe=>by have h1:=h.sp.p q hq hl;have h2:=h.sp.b;rw[e] at h1;omega))
 ·refine⟨?_,?_,λhl=>?_,λq hq=>?_,λq hq=>?_,λq hq=>?_,λq hq hl=>?_⟩
  ·rw[if_neg nbg];exact h.sp.b
  ·rw[if_neg (hgb bn h.sb.lo.2.2.1 rn)];exact h.sp.n
  ·rw[if_neg (hgb br (h.rw.nr hl).1.1 (by rw[h.sp.r hl];omega))];exact h.sp.r hl
  ·rw[if_neg (hgb (cB q) (h.rw.nc q hq).1.1 (by rw[h.sp.c q hq];omega))];exact h.sp.c q hq
  ·rw[if_neg (hgb q (h.sb.fr.own.lt q hq).2 (by rw[h.sp.f q hq];omega))];exact h.sp.f q hq
  ·simp [Value.ownBlock] at hq;rw[if_pos hq.symm]
  ·rw[if_neg (hgb (pb q) (h.rw.pl q hq hl).2.1.1 (by rw[h.sp.p q hq hl];omega))];exact h.sp.p q hq hl
def a1f(x:Hp)(i:Nat):Bool:=x.phase == 4 || (x.phase == 3 && decide ((i:Int)<x.hand))
theorem c3n(x:Hp)(b bn i:Nat)(w:World)(c5:w.cell? ⟨b,5,none⟩=some (iv x.phase))(c6:w.cell? ⟨b,6,none⟩=some (iv x.hand))(m0:w.cell? ⟨bn,i*2,none⟩=some (iv i)):
  Calls Tryz.prog 142 #[.pointer (some ⟨b,0,none⟩),ndp bn i] w λe w'=>e=.returned (.bool (a1f x i))/\Ext w w':=by
 cases q4:(x.phase == 4)
 ·cases q3:(x.phase == 3)
  ·have E:=uU (show a1f x i=false by simp [a1f,q4,q3]);go_enter Tryz.func142,Tryz.ntmps142;go_wp2_with fail;go_quiet (fail);go_wp2_with fail;go_ret;exact⟨by rw[uH E];rfl,Ext.drewN (Ext.refl _) _⟩
  ·have E:=uU (show a1f x i=decide ((i:Int)<x.hand) by simp [a1f,q4,q3]);go_enter Tryz.func142,Tryz.ntmps142;go_wp2_with fail;go_quiet (fail);go_wp2_with fail;go_ret;exact⟨by rw[uH E];rfl,Ext.drewN (Ext.refl _) _⟩
 ·have E:=uU (show a1f x i=true by simp [a1f,q4]);go_enter Tryz.func142,Tryz.ntmps142;go_wp2_with fail;go_quiet (fail);go_wp2_with fail;go_ret;exact⟨by rw[uH E];rfl,Ext.drewN (Ext.refl _) _⟩
theorem b7u(b bn hd i:Nat)(G:List Int)(w:World)(h:RAt w b bn hd G)(hn:Nf1 b w)(hl:G.length<4000):
  Calls Tryz.prog 141 #[.pointer (some ⟨b,15,none⟩),ndp bn i] w λe w'=>e=.returned (.tuple #[])/\RAt w' b bn hd (G++[(i:Int)])/\uX (λq=>q=b) w w'/\Nf1 b w'/\∀o,(o<15\/o=4015\/o=4017)->w'.cell? ⟨b,o,none⟩=w.cell? ⟨b,o,none⟩:=by
 have r0:=h.r0;have r1:=h.r1;have h0:=h.h0;obtain⟨u,ru⟩:=h.ro ((hd+G.length) % 4000) (Nat.mod_lt _ (by omega));have f0:=hn.2 (15+(hd+G.length) % 4000);have f1:=hn.2 4016;obtain⟨m,hm⟩:∃m,m=(hd+G.length) % 4000:=⟨_,rfl⟩;rw[<-hm] at ru f0;have hm4:m<4000:=by rw[hm];exact Nat.mod_lt _ (by omega)
 have hr:((hd:Int)+(G.length:Int)).tmod 4000=(m:Int):=by have:=b2x (hd+G.length);rw[<-hm] at this;simpa using this
 have m0:(0:Int)<=(m:Int):=by omega
 have m1:(m:Int)<4000:=by omega
 have HM:=uU hm;have H:=uU h;clear h hm;go_enter Tryz.func141,Tryz.ntmps141;go_wp2_with fail
 go_region
 all_goals
  go_wp2_with fail
  go_end0
  refine⟨rfl,(H.put hl HM).block rfl,(uX.setCell (S:=λq=>q=b) (uX.setCell (S:=λq=>q=b) (uX.refl _ w) (p:=⟨b,15+m,none⟩) rfl _) (p:=⟨b,4016,none⟩) rfl _).drew,⟨by have:=hn.1;simpa [World.setCell] using this,λj=>by rw[show ∀(W:World) (p:Addr),W.drew.frozen? p=W.frozen? p from λW p=>World.frozen?_of_block (a:=p) rfl,World.frozen?_setCell,World.frozen?_setCell];exact hn.2 j⟩,λo ho=>?_⟩;rw[a0w,uC _ (.inr (by omega)),uC _ (.inr (by omega))]
theorem SAt.ring[Inhabited uN]{hd':Nat}(h:SAt B w b x ar kr v4 v8 br cB cO bn pb pa pk kn hd vf F vk K role)(r:RAt w' b bn hd' G)(o:uX (λq=>q=b) w w')(n:Nf1 b w')(c:∀k,(k<15\/k=4017)->w'.cell? ⟨b,k,none⟩=w.cell? ⟨b,k,none⟩):
  SAt B w' b { x with gray:=G } ar kr v4 v8 br cB cO bn pb pa pk kn hd' vf F vk K role:=by
 have far:∀q,q<w.heap.size->role q≠0->w'.heap[q]?=w.heap[q]?:=λq hq hr=>o.block q hq (λe=>hr (by rw[e];exact h.sp.b))
 have fn:=far bn h.sb.lo.2.2.1 (by rw[h.sp.n];omega);refine⟨⟨h.sb.bx.of λk hk=>c k (by omega),h.sb.ha,(c 13 (by omega)).trans h.sb.n13,λk hk=>⟨(World.cell?_of_block (a:=⟨bn,_,none⟩) fn).trans (h.sb.nd k hk).1,(World.cell?_of_block (a:=⟨bn,_,none⟩) fn).trans (h.sb.nd k hk).2⟩,⟨(c 14 (by omega)).trans h.sb.fr.hd,n.2 14,uQ h.sb.fr.own (λq hq=>far q (h.sb.fr.own.lt q hq).2 (by rw[h.sp.f q hq];omega)),h.sb.fr.apart⟩,r,(c 4017 (by omega)).trans h.sb.k0,uQ h.sb.kp (λq hq=>far q (h.sb.kp.lt q hq).2 (by rw[h.sp.k q hq];omega)),n,⟨h.sb.lo.1,h.sb.lo.2.1,h.sb.lo.2.2.of fn o.size⟩⟩,?_,⟨h.sp.b,h.sp.n,h.sp.r,h.sp.c,h.sp.f,h.sp.k,h.sp.p⟩,h.pr.of (λq hq h1=>far q hq (by rw[h1];omega)) (λ_ _ h=>h)⟩;have:=h.rw.same o.size (λhl=>far br (h.rw.nr hl).1.1 (by rw[h.sp.r hl];omega)) (λq hq=>far (cB q) (h.rw.nc q hq).1.1 (by rw[h.sp.c q hq];omega)) (λq hq hl=>far (pb q) (h.rw.pl q hq hl).2.1.1 (by rw[h.sp.p q hq hl];omega));exact⟨this.r,this.s,this.p7,this.p,this.pl,this.nr,this.nc,this.d,this.dp,this.dc,this.kp⟩
theorem SAt.start[Inhabited uN]{w2:World}{b2:Nat}{Z:Array Value}{T:TypeId}(hz:∀q,(default:uN).z q=none)
  (ho:Opn w1 w2 x bx b2 bn x.cells.length x.cells.length ar kr ac kc ag kg vf F) (hrw:Rws B w1 x br bc pb pa pk) (hB:B<=w1.heap.size) (har:0<x.regs.length->ar=some ⟨br,0,none⟩) (hac:0<x.cells.length->ac=some ⟨bc,0,none⟩) (hr:0<x.regs.length)
  (hZ:Z.size=4018/\(Z[0]?=some (iv x.room)/\Z[1]?=some (iv x.used)/\Z[2]?=some (iv x.born)/\Z[3]?=some (.slice ar x.regs.length kr)/\Z[4]?=some (.slice ac x.cells.length kc)/\Z[5]?=some (iv x.phase)/\Z[6]?=some (iv x.hand)/\Z[7]?=some (iv x.sub)/\Z[8]?=some (.slice ag x.gray.length kg)/\Z[9]?=some (iv x.per)/\Z[10]?=some (iv x.start)/\Z[11]?=some (iv x.rounds)/\Z[12]?=some (iv x.forced)/\Z[13]?=some (.slice (some ⟨bn,0,none⟩) x.cells.length x.cells.length)/\Z[14]?=some vf)/\Z[4015]?=some (iv 0)/\Z[4016]?=some (iv 0)/\Z[4017]?=some (.slice none 0 0)) :
  ∃role,SAt B (w2.alloc (.cells Z T)) w2.heap.size { x with gray:=[] } ar kr (.slice ac x.cells.length kc) (.slice ag x.gray.length kg) br (λ_=>bc) (λq=>q*8) bn pb pa pk x.cells.length 0 vf F (.slice none 0 0) [] role:=by
 obtain⟨hZs,⟨z0,z1,z2,z3,z4,z5,z6,z7,z8,z9,z10,z11,z12,z13,z14⟩,y0,y1,y2⟩:=hZ;obtain⟨hb1,hb2,hb3,hb4⟩:=ho.hb;have xe:Ext w1 (w2.alloc (.cells Z T)):=ho.e.alloc _;have x2:Ext w2 (w2.alloc (.cells Z T)):=(Ext.refl w2).alloc _;have hnew:(w2.alloc (.cells Z T)).heap[w2.heap.size]?=some (.cells Z T):=heap_alloc_new w2 _;have cz:∀o,(w2.alloc (.cells Z T)).cell? ⟨w2.heap.size,o,none⟩=Z[o]?:=λo=>cell_of_row _ w2.heap.size o _ _ (0,0) hnew
 have nz:Nf1 w2.heap.size (w2.alloc (.cells Z T)):=⟨by simp,λj=>by simp [go_sem]⟩;have lr:=(hrw.nr hr).1.1;have lsz:=ho.e.size;have lp:∀q,q<x.cells.length->0<pk q->pb q<w1.heap.size:=λq hq hl=>(hrw.pl q hq hl).2.1.1
 have lf:∀q,vf.ownBlock=some q->bn+1<=q/\q<w2.heap.size:=λq hq=>ho.f.own.lt q hq
 refine⟨λq=>if q=w2.heap.size then 0 else if q=bn then 1 else if q=br then 2 else if 0<x.cells.length/\q=bc then 3 else
  (open Classical in if h:∃i,i<x.cells.length/\0<pk i/\pb i=q then 6+Classical.choose h else 4),⟨⟨(cz 0).trans z0,(cz 1).trans z1,(cz 2).trans z2,(cz 3).trans z3,(cz 4).trans z4,(cz 5).trans z5,(cz 6).trans z6,(cz 7).trans z7,(cz 8).trans z8,(cz 9).trans z9,(cz 10).trans z10,(cz 11).trans z11,(cz 12).trans z12⟩,har,(cz 13).trans z13,λi hi=>?_,⟨(cz 14).trans z14,nz.2 14,a3m (ho.f.own.alloc _) (by omega),λe=>by have:=(lf _ e).2;omega⟩,⟨by omega,by simp,(cz 4015).trans y0,(cz 4016).trans y1,λi hi=>by simp at hi,λj hj=>⟨Z[15+j]'(by omega),(cz _).trans (by simp)⟩⟩,(cz 4017).trans y2,World.ownsRow_nil _ _ _ _,nz,⟨by omega,by omega,by simp;omega,λj hj=>(ho.o j hj).ext x2⟩⟩,?_,?_,λq o h=>by rw[hz q] at h;cases h⟩
 ·obtain⟨bc',oc,e,p,q⟩:=ho.n i hi;have e2:=(hac (Nat.lt_of_le_of_lt (Nat.zero_le _) hi)).symm.trans e;simp only [Option.some.injEq,Addr.mk.injEq] at e2;obtain⟨rfl,rfl,_⟩:=e2;rw[Nat.zero_add] at q;exact⟨x2.keep p,x2.keep q⟩
 ·have:=(hrw.ext xe).rwn;exact⟨this.r,this.s,this.p7,this.p,this.pl,this.nr,this.nc,this.d,this.dp,this.dc,this.kp⟩
 ·refine⟨if_pos rfl,?_,λ_=>?_,λq hq=>?_,λq hq=>?_,λq hq=>by simp [Value.ownBlock] at hq,λq hq hl=>?_⟩
  ·rw[if_neg (by omega),if_pos rfl]
  ·rw[if_neg (by omega),if_neg (by omega),if_pos rfl]
  ·have hl:0<x.cells.length:=by have:q<x.cells.length:=hq;omega
   have l1:=(hrw.nc hl).1.1;have l2:=hrw.d hl;rw[if_neg (by omega),if_neg (by omega),if_neg (λe=>l2 e.symm),if_pos ⟨hl,rfl⟩]
  ·have l1:=lf q hq;rw[if_neg (by omega),if_neg (by omega),if_neg (by omega),if_neg (λe=>by have:=(hrw.nc e.1).1.1;omega),dif_neg (λ⟨i,h1,h2,h3⟩=>by have:=lp i h1 h2;omega)]
  ·have l1:=lp q hq hl;have l2:=(hrw.pl q hq hl).2.2.1;have hex:∃i,i<x.cells.length/\0<pk i/\pb i=pb q:=⟨q,hq,hl,rfl⟩;rw[if_neg (by omega),if_neg (by omega),if_neg l2.1,if_neg (λe=>l2.2 e.2),dif_pos hex];have sp:=Classical.choose_spec hex
   have:Classical.choose hex=q:=by
    rcases Nat.decEq (Classical.choose hex) q with h | h
    ·exact absurd sp.2.2 (hrw.dp _ q sp.1 hq h sp.2.1 hl)
    ·exact h
   rw[this]
theorem SAt.setc[Inhabited uN]{c':Cl}
  (h:SAt B w b x ar kr v4 v8 br cB cO bn pb pa pk kn hd vf F vk K role) (hi:i<x.cells.length) (hp:c'.prs=(x.c i).prs) (o:uX (λq=>q=cB i) w w') (hs:S7 w' (cB i) (cO i) c') (ho:∀k,(k<cO i\/cO i+7<=k)->w'.cell? ⟨cB i,k,none⟩=w.cell? ⟨cB i,k,none⟩) (nf:Nf1 (cB i) w') :
  SAt B w' b { x with cells:=x.cells.set i c' } ar kr v4 v8 br cB cO bn pb pa pk kn hd vf F vk K role:=by
 have far:∀q,q<w.heap.size->role q≠3->w'.heap[q]?=w.heap[q]?:=λq hq hr=>o.block q hq (λe=>hr (by rw[e];exact h.sp.c i hi))
 have hl:({ x with cells:=x.cells.set i c' }:Hp).cells.length=x.cells.length:=by simp
 have hc:=Hp.c_set x i c' hi
 have hpr:∀q,(({ x with cells:=x.cells.set i c' }:Hp).c q).prs=(x.c q).prs:=λq=>by
  rw[hc q];by_cases e:q=i
  ·rw[if_pos e,hp,e]
  ·rw[if_neg e]
 have sb:=h.sb.same o.size (far b h.sb.nb.1 (by rw[h.sp.b];omega)) (far bn h.sb.lo.2.2.1 (by rw[h.sp.n];omega)) (λq hq=>far q (h.sb.fr.own.lt q hq).2 (by rw[h.sp.f q hq];omega)) (λq hq=>far q (h.sb.kp.lt q hq).2 (by rw[h.sp.k q hq];omega));have pf:∀q,q<x.cells.length->0<pk q->w'.heap[pb q]?=w.heap[pb q]?:=λq hq hl=>far (pb q) (h.rw.pl q hq hl).2.1.1 (by rw[h.sp.p q hq hl];omega)
 have cf:∀q,q<x.cells.length->cB q≠cB i->w'.heap[cB q]?=w.heap[cB q]?:=λq hq e=>o.block (cB q) (h.rw.nc q hq).1.1 e
 have ck:∀q,q<x.cells.length->q≠i->∀k,k<8->w'.cell? ⟨cB q,cO q+k,none⟩=w.cell? ⟨cB q,cO q+k,none⟩:=λq hq e k hk=>by
  by_cases e2:cB q=cB i
  ·rw[e2];rcases h.rw.dc q i hq hi e with d | d | d
   ·exact(d e2).elim
   ·exact ho _ (by omega)
   ·exact ho _ (by omega)
  ·exact World.cell?_of_block (a:=⟨cB q,_,none⟩) (cf q hq e2)
 have cn:∀q,q<x.cells.length->Nf1 (cB q) w':=λq hq=>by
  by_cases e2:cB q=cB i
  ·rw[e2];exact nf
  ·exact hY (h.rw.nc q hq).1 (cf q hq e2) o.size
 refine⟨⟨sb.bx,sb.ha,by rw[hl];exact sb.n13,λk hk=>sb.nd k (by rw[hl] at hk;exact hk),sb.fr,sb.rg,sb.k0,sb.kp,sb.nb,sb.lo⟩,⟨λk hk=>?_,λq hq=>?_,λq hq=>?_,λq hq k hk=>?_,λq hq hlq=>?_,λhr=>⟨hY (h.rw.nr hr).1 (far br (h.rw.nr hr).1.1 (by rw[h.sp.r hr];omega)) o.size,(h.rw.nr hr).2⟩,λq hq=>⟨cn q (by rw[hl] at hq;exact hq),(h.rw.nc q (by rw[hl] at hq;exact hq)).2⟩,λq hq=>h.rw.d q (by rw[hl] at hq;exact hq),λq q' hq hq' hne h1 h2=>?_,λq q' hq hq' hne=>h.rw.dc q q' (by rw[hl] at hq;exact hq) (by rw[hl] at hq';exact hq') hne,λq hq=>?_⟩,⟨h.sp.b,h.sp.n,h.sp.r,λq hq=>h.sp.c q (by rw[hl] at hq;exact hq),h.sp.f,h.sp.k,λq hq hlq=>?_⟩,h.pr.of (λq hq h1=>far q hq (by rw[h1];omega)) (λ_ _ h=>h)⟩
 ·exact(h.rw.r k hk).of λj _=>World.cell?_of_block (a:=⟨br,_,none⟩) (far br (h.rw.nr (by have:k<x.regs.length:=hk;omega)).1.1 (by rw[h.sp.r (by have:k<x.regs.length:=hk;omega)];omega))
 ·rw[hl] at hq;rw[hc q];by_cases e:q=i
  ·subst e;rw[if_pos rfl];exact hs
  ·rw[if_neg e];exact(h.rw.s q hq).of λj hj=>ck q hq e j (by omega)
 ·rw[hl] at hq;rw[hpr q];by_cases e:q=i
  ·subst e;rw[ho _ (by omega)];exact h.rw.p7 q hq
  ·rw[ck q hq e 7 (by omega)];exact h.rw.p7 q hq
 ·rw[hl] at hq;have e2:(({ x with cells:=x.cells.set i c' }:Hp).c q).p k=(x.c q).p k:=by simp only [Cl.p,hpr q]
  rw[hpr q] at hk;rw[e2];exact(h.rw.p q hq k hk).of λj _=>World.cell?_of_block (a:=⟨pb q,_,none⟩) (pf q hq (h.rw.pw hq (by omega)))
 ·rw[hl] at hq;obtain⟨a1,a2,a3,a4⟩:=h.rw.pl q hq hlq;exact⟨a1,a0f a2 (pf q hq hlq) o.size,⟨a3.1,λj hj=>a3.2 j (by rw[hl] at hj;exact hj)⟩,a4⟩
 ·rw[hl] at hq hq';exact h.rw.dp q q' hq hq' hne h1 h2
 ·rw[hl] at hq;rw[hpr q];exact h.rw.kp q hq
 ·rw[hl] at hq;exact h.sp.p q hq hlq
theorem b5r(x:Hp)(b:Nat)(w:World)(c5:w.cell? ⟨b,5,none⟩=some (iv x.phase)):
  Calls Tryz.prog 145 #[.pointer (some ⟨b,0,none⟩)] w λe w'=>e=.returned (.bool (mkB x))/\w'=w:=by
 cases q:(x.phase == 1)
 ·have E:=uU (show mkB x=(x.phase == 2) by simp [mkB,q]);go_enter Tryz.func145,Tryz.ntmps145;go_wp2_with fail;go_ret;exact⟨by rw[uH E];rfl,rfl⟩
 ·have E:=uU (show mkB x=true by simp [mkB,q]);go_enter Tryz.func145,Tryz.ntmps145;go_wp2_with fail;go_ret;exact⟨by rw[uH E];rfl,rfl⟩
theorem a5h(c:Cl)(bn i cb co:Nat)(w:World)(m1:w.cell? ⟨bn,i*2+1,none⟩=some (.pointer (some ⟨cb,co,none⟩)))(s:S7 w cb co c):
  Calls Tryz.prog 146 #[ndp bn i] w λe w'=>e=.returned (.bool (whB c))/\w'=w:=by
 have s0:=s.1;have s5:=s.2.2.2.2.2.1;clear s;cases q:(c.st == 1)
 ·have E:=uU (show whB c=false by simp [whB,q]);go_enter Tryz.func146,Tryz.ntmps146;go_wp2_with fail;go_ret;exact⟨by rw[uH E];rfl,rfl⟩
 ·have E:=uU (show whB c=(c.color == 0) by simp [whB,q]);go_enter Tryz.func146,Tryz.ntmps146;go_wp2_with fail;go_ret;exact⟨by rw[uH E];rfl,rfl⟩
theorem b4g[Inhabited uN](i:Nat)(w:World)
  (h:SAt B w b x ar kr v4 v8 br cB cO bn pb pa pk kn hd vf F vk K role) (hi:i<x.cells.length) (hg:qU x i=true->x.gray.length<4000) (a:World) (ha:a.heap.size<=B) (hx:Ext a w) :
  Calls Tryz.prog 82 #[.pointer (some ⟨b,0,none⟩),ndp bn i] w λe w'=>e=.returned (.tuple #[])/\Hid (SAt B w' b (uV x i) ar kr v4 v8 br cB cO bn pb pa pk kn hd vf F vk K role)/\Ext a w'/\Hid (∀q,q<w.heap.size->q≠b->q≠cB i->w'.heap[q]?=w.heap[q]?):=by
 have H:=uU h;have c5:=h.sb.bx.2.2.2.2.2.1;obtain⟨m0,m1⟩:=h.sb.nd i hi;have S:=uU (h.rw.s i hi);clear h;go_enter Tryz.func82,Tryz.ntmps82;go_wp2_with fail;refine(b5r x b _ c5).mono ?_;rintro e w1 ⟨rfl,rfl⟩;cases q1:mkB x
 ·have E:=uU (show uV x i=x by unfold uV;rw[if_neg (by simp [qU,q1])]);go_wp2_with fail
  try simp only [Exit.inBlock,Exit.then]
  refine bodyPost_ret (results_none rfl _ _ _) rfl ?_;exact⟨rfl,by rw[uH E];exact uH H,hx,λ_ _ _ _=>rfl⟩
 ·go_wp2_with fail;refine(a5h (x.c i) bn i (cB i) (cO i) _ m1 S).mono ?_;rintro e w2 ⟨rfl,rfl⟩;cases q2:whB (x.c i)
  ·have E:=uU (show uV x i=x by unfold uV;rw[if_neg (by simp [qU,q2])]);go_wp2_with fail
   try simp only [Exit.inBlock,Exit.then]
   refine bodyPost_ret (results_none rfl _ _ _) rfl ?_;exact⟨rfl,by rw[uH E];exact uH H,hx,λ_ _ _ _=>rfl⟩
  ·have hb:qU x i=true:=by simp [qU,q1,q2]
   have E:=uU (show uV x i={ x with cells:=x.cells.set i (tN (x.c i)),gray:=x.gray++[(i:Int)] } by unfold uV;rw[if_pos hb]);have hl4:=hg hb;have s5:=S.2.2.2.2.2.1;have f5:=(H.rw.nc i hi).1.2 (cO i+5)
   have C:=uU (show SAt B (w2.setCell ⟨cB i,cO i+5,none⟩ (iv 1)) b { x with cells:=x.cells.set i (tN (x.c i)) } ar kr v4 v8 br cB cO bn pb pa pk kn hd vf F vk K role from
    H.setc hi rfl (uX.setCell (S:=λq=>q=cB i) (uX.refl _ w2) (p:=⟨cB i,cO i+5,none⟩) rfl _) (by
     obtain⟨a0,a1,a2,a3,a4,a5,a6⟩:=S;refine⟨?_,?_,?_,?_,?_,World.cell?_setCell_same _ _ _ a5,?_⟩
     ·rw[uC _ (.inr (by omega))];exact a0
     ·rw[uC _ (.inr (by omega))];exact a1
     ·rw[uC _ (.inr (by omega))];exact a2
     ·rw[uC _ (.inr (by omega))];exact a3
     ·rw[uC _ (.inr (by omega))];exact a4
     ·rw[uC _ (.inr (by omega))];exact a6) (λk hk=>uC _ (.inr (by omega))) ((H.rw.nc i hi).1.set _ _))
   have X2:=uU (hx.setCell (p:=⟨cB i,cO i+5,none⟩) (show a.heap.size<=cB i from Nat.le_trans ha (H.rw.nc i hi).2) (iv 1));have LB:=uU (Nat.le_trans ha H.sb.lo.1);clear hb hg;go_wp2_with fail;refine(b7u b bn hd i x.gray _ C.sb.rg C.sb.nb hl4).mono ?_;rintro e w3 ⟨rfl,hr3,ho3,hn3,hc3⟩;have R:=uU (C.ring hr3 ho3 hn3 (λo ho=>hc3 o (by omega)));have FR:=uU (show ∀q,q<w2.heap.size->q≠b->q≠cB i->w3.heap[q]?=w2.heap[q]? from λq hq h1 h2=>(ho3.block q (by simpa [World.setCell] using hq) h1).trans (Below.heap_setCell _ _ _ _ h2));have XX:=uU (ho3.ext X2 (λq hq e=>by have:=uH LB;omega));clear hr3 ho3 hn3 hc3;go_wp2_with fail
   go_end0
   exact⟨rfl,by rw[uH E];exact uH R,XX,FR⟩
end Go.Proofs.YtddkhnclmeikfaaGreat
