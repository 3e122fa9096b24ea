import Derived.Test.YtddkhnclmeikfaaGreatSpecH2
import Derived.Test.YtddkhnclmeikfaaGreatImpB4
set_option maxRecDepth 100000
set_option maxHeartbeats 4000000
namespace Go.Proofs.YtddkhnclmeikfaaGreat
open Go.RowKit
attribute [local go_sem ↓] Go.wp_at_zero Go.wp_at_succ
variable{ac ar ag an:Option Addr}{kc kr kg k bx b bn kn j:Nat}{x:Hp}{w wr w':World}{vf v1 v2:Value}{F L1 L2:List Int}
theorem c8c(x:Hp)(b:Nat)(w:World)(h:HAt w b x ar kr ac kc ag kg)(q0:uQ x.room 1 4000=true)(q1:((x.regs.length:Int) == 16)=true)(q2:decide ((x.cells.length:Int)<=2*x.room)=true)(q3:decide ((x.gray.length:Int)<=(x.cells.length:Int))=true)(q4:uQ x.born 0 1000000000=false):
  Calls Tryz.prog 106 #[.pointer (some ⟨b,0,none⟩)] w λe w'=>e=.returned (.bool false)/\Ext w w':=by
 obtain⟨c0,c1,c2,c3,c4,c5,c6,c7,c8,c9,c10,c11,c12,lr,lc,lg,R,C,G⟩:=h;clear R C G;have p0:=uW q0;have p1:(0:Int)<=x.room:=by omega
 have q2b:(x.cells.length:Int)<=2*x.room:=of_decide_eq_true q2;clear q2;have q3b:x.gray.length<=x.cells.length:=by have:=of_decide_eq_true q3;omega
 clear q3;have q1b:(x.regs.length:Int)=16:=by simpa using q1
 clear q1;go_enter Tryz.func106,Tryz.ntmps106;go_wp2_with fail;simp only [List.append];refine wp_region_quiet_lit (by kernel_rfl) a1o ?_
 repeat (go_big_quiet_step ((go_at_call 78;first | (refine Calls.quiet_of_same (uD _ _ _ true ?_ _);assumption) | (refine Calls.quiet_of_same (uD _ _ _ false ?_ _);assumption))))
 refine wpQuiet_nil ?_;intro _ hw';obtain⟨nq,hw''⟩:=hw';subst hw'';go_wp2_with fail;go_ret;exact⟨rfl,Ext.drewN (Ext.refl w) _⟩
theorem c8d(x:Hp)(b:Nat)(w:World)(h:HAt w b x ar kr ac kc ag kg)(q0:uQ x.room 1 4000=true)(q1:((x.regs.length:Int) == 16)=true)(q2:decide ((x.cells.length:Int)<=2*x.room)=true)(q3:decide ((x.gray.length:Int)<=(x.cells.length:Int))=false):
  Calls Tryz.prog 106 #[.pointer (some ⟨b,0,none⟩)] w λe w'=>e=.returned (.bool false)/\Ext w w':=by
 obtain⟨c0,c1,c2,c3,c4,c5,c6,c7,c8,c9,c10,c11,c12,lr,lc,lg,R,C,G⟩:=h;clear R C G;have p0:=uW q0;have p1:(0:Int)<=x.room:=by omega
 have q2b:(x.cells.length:Int)<=2*x.room:=of_decide_eq_true q2;clear q2;have q3b:decide (x.gray.length<=x.cells.length)=false:=by have:=of_decide_eq_false q3;exact decide_eq_false (by omega)
 have q1b:(x.regs.length:Int)=16:=by simpa using q1
 clear q1;go_enter Tryz.func106,Tryz.ntmps106;go_wp2_with fail;simp only [List.append];refine wp_region_quiet_lit (by kernel_rfl) a1o ?_
 repeat (go_big_quiet_step ((go_at_call 78;first | (refine Calls.quiet_of_same (uD _ _ _ true ?_ _);assumption) | (refine Calls.quiet_of_same (uD _ _ _ false ?_ _);assumption))))
 refine wpQuiet_nil ?_;intro _ hw';obtain⟨nq,hw''⟩:=hw';subst hw'';go_wp2_with fail;go_ret;exact⟨rfl,Ext.drewN (Ext.refl w) _⟩
theorem c8e(x:Hp)(b:Nat)(w:World)(h:HAt w b x ar kr ac kc ag kg)(q0:uQ x.room 1 4000=true)(q1:((x.regs.length:Int) == 16)=true)(q2:decide ((x.cells.length:Int)<=2*x.room)=false):
  Calls Tryz.prog 106 #[.pointer (some ⟨b,0,none⟩)] w λe w'=>e=.returned (.bool false)/\Ext w w':=by
 obtain⟨c0,c1,c2,c3,c4,c5,c6,c7,c8,c9,c10,c11,c12,lr,lc,lg,R,C,G⟩:=h;clear R C G;have p0:=uW q0;have p1:(0:Int)<=x.room:=by omega
 have q1b:(x.regs.length:Int)=16:=by simpa using q1
 clear q1;go_enter Tryz.func106,Tryz.ntmps106;go_wp2_with fail;simp only [List.append];refine wp_region_quiet_lit (by kernel_rfl) a1o ?_
 repeat (go_big_quiet_step ((go_at_call 78;first | (refine Calls.quiet_of_same (uD _ _ _ true ?_ _);assumption) | (refine Calls.quiet_of_same (uD _ _ _ false ?_ _);assumption))))
 refine wpQuiet_nil ?_;intro _ hw';obtain⟨nq,hw''⟩:=hw';subst hw'';go_wp2_with fail;go_ret;exact⟨rfl,Ext.drewN (Ext.refl w) _⟩
theorem a4f(x:Hp)(b:Nat)(w:World)(h:HAt w b x ar kr ac kc ag kg):
  Calls Tryz.prog 106 #[.pointer (some ⟨b,0,none⟩)] w λe w'=>∃r:Bool,Hid (e=.returned (.bool r))/\(r=true↔R1 x)/\Ext w w':=by
 cases q0:uQ x.room 1 4000
 ·exact(c7x x b w h q0).mono λ_ _ ⟨he,hx⟩=>⟨false,he,⟨λf=>by simp at f,λr=>by exfalso;exact a0a q0 r.room⟩,hx⟩
 cases q1:((x.regs.length:Int) == 16)
 ·exact(c7y x b w h q0 q1).mono λ_ _ ⟨he,hx⟩=>⟨false,he,⟨λf=>by simp at f,λr=>by exfalso;simp at q1;exact q1 (by have:=r.regs;omega)⟩,hx⟩
 cases q2:decide ((x.cells.length:Int)<=2*x.room)
 ·exact(c8e x b w h q0 q1 q2).mono λ_ _ ⟨he,hx⟩=>⟨false,he,⟨λf=>by simp at f,λr=>by exfalso;exact of_decide_eq_false q2 r.cells⟩,hx⟩
 cases q3:decide ((x.gray.length:Int)<=(x.cells.length:Int))
 ·exact(c8d x b w h q0 q1 q2 q3).mono λ_ _ ⟨he,hx⟩=>⟨false,he,⟨λf=>by simp at f,λr=>by exfalso;exact of_decide_eq_false q3 (by have:=r.gray;omega)⟩,hx⟩
 cases q4:uQ x.born 0 1000000000
 ·exact(c8c x b w h q0 q1 q2 q3 q4).mono λ_ _ ⟨he,hx⟩=>⟨false,he,⟨λf=>by simp at f,λr=>by exfalso;exact a0a q4 r.born⟩,hx⟩
 cases q5:uQ x.rounds 0 1000000000
 ·exact(c8b x b w h q0 q1 q2 q3 q4 q5).mono λ_ _ ⟨he,hx⟩=>⟨false,he,⟨λf=>by simp at f,λr=>by exfalso;exact a0a q5 r.rounds⟩,hx⟩
 cases q6:uQ x.forced 0 1000000000
 ·exact(c8a x b w h q0 q1 q2 q3 q4 q5 q6).mono λ_ _ ⟨he,hx⟩=>⟨false,he,⟨λf=>by simp at f,λr=>by exfalso;exact a0a q6 r.forced⟩,hx⟩
 cases q7:uQ x.per 0 64
 ·exact(c7z x b w h q0 q1 q2 q3 q4 q5 q6 q7).mono λ_ _ ⟨he,hx⟩=>⟨false,he,⟨λf=>by simp at f,λr=>by exfalso;exact a0a q7 r.per⟩,hx⟩
 cases q8:uQ x.start 0 4000
 ·exact(c7w x b w h q0 q1 q2 q3 q4 q5 q6 q7 q8).mono λ_ _ ⟨he,hx⟩=>⟨false,he,⟨λf=>by simp at f,λr=>by exfalso;exact a0a q8 r.start⟩,hx⟩
 cases q9:uQ x.phase 0 6
 ·exact(c7v x b w h q0 q1 q2 q3 q4 q5 q6 q7 q8 q9).mono λ_ _ ⟨he,hx⟩=>⟨false,he,⟨λf=>by simp at f,λr=>by exfalso;exact a0a q9 r.phase⟩,hx⟩
 cases q10:uQ x.hand 0 (x.cells.length:Int)
 ·exact(c5m x b w h q0 q1 q2 q3 q4 q5 q6 q7 q8 q9 q10).mono λ_ _ ⟨he,hx⟩=>⟨false,he,⟨λf=>by simp at f,λr=>by exfalso;exact a0a q10 r.hand⟩,hx⟩
 cases q11:uQ x.sub 0 200
 ·exact(c5k x b w h q0 q1 q2 q3 q4 q5 q6 q7 q8 q9 q10 q11).mono λ_ _ ⟨he,hx⟩=>⟨false,he,⟨λf=>by simp at f,λr=>by exfalso;exact a0a q11 r.sub⟩,hx⟩
 exact(c5j x b w h q0 q1 q2 q3 q4 q5 q6 q7 q8 q9 q10 q11).mono λ_ _ ⟨he,hx⟩=>⟨true,he,⟨λ_=>⟨uW q0,by simp at q1;omega,of_decide_eq_true q2,by have:=of_decide_eq_true q3;omega,uW q4,uW q5,uW q6,uW q7,uW q8,uW q9,uW q10,uW q11⟩,λ_=>rfl⟩,hx⟩
theorem a5c:(Tryz.prog.info? 124).map (λi=>(i.zero,i.size,i.bytes))=some (some (.agg #[iv 0,.pointer none]),2,16):=by kernel_rfl
theorem mkNodes(n:Nat)(hn:n<=1048576)(w:World):∃z,(Instr.makeSlice 117 (.int .i64 n) (.int .i64 n)).run Tryz.prog w=.ok (.slice (some ⟨w.heap.size,0,none⟩) n n) (w.alloc (.cells (madeCells z (n*2)) 124)):=by
 obtain⟨i0,hi,hz0,hz1,hz2⟩:=info_parts a5c;have h:=run_make (P:=Tryz.prog) w 117 124 i0 _ Tryz.underlying117 hi hz0 .i64 .i64 n n (by omega) (Int.le_refl _) (by rw[hz2];omega) (by omega);rw[hz1] at h;simp only [Int.toNat_natCast] at h;exact⟨_,h⟩
theorem c8f(x:Hp)(w:World)(b:Nat)
  (hc:∀o v,#[iv x.room,iv x.used,iv x.born,.slice ar x.regs.length kr,.slice ac x.cells.length kc,iv x.phase,iv x.hand,iv x.sub,.slice ag x.gray.length kg,iv x.per,iv x.start,iv x.rounds,iv x.forced][o]?=some v->w.cell? ⟨b,o,none⟩=some v)
  (hR:SlW w (.slice ar x.regs.length kr) x.regs) (hC:SlC w (.slice ac x.cells.length kc) x.cells) (hG:SlI w (.slice ag x.gray.length kg) x.gray):HAt w b x ar kr ac kc ag kg:=by
 obtain⟨a1,k1,v1,l1,R⟩:=hR;obtain⟨a2,k2,v2,l2,C⟩:=hC;obtain⟨a3,k3,v3,l3,G⟩:=hG;simp only [Value.slice.injEq] at v1 v2 v3;obtain⟨rfl,_,rfl⟩:=v1;obtain⟨rfl,_,rfl⟩:=v2;obtain⟨rfl,_,rfl⟩:=v3;refine⟨hc 0 _ rfl,hc 1 _ rfl,hc 2 _ rfl,hc 3 _ rfl,hc 4 _ rfl,hc 5 _ rfl,hc 6 _ rfl,hc 7 _ rfl,hc 8 _ rfl,hc 9 _ rfl,hc 10 _ rfl,hc 11 _ rfl,hc 12 _ rfl,l1,l2,l3,R,?_,G⟩;intro i hi;obtain⟨b',o,a,p⟩:=C i hi;rw[Hp.c_eq] at p;exact⟨b',o,a,p⟩
structure Opn(w wr:World)(x:Hp)(bx b bn k j:Nat)(ar:Option Addr)(kr:Nat)(ac:Option Addr)(kc:Nat)(ag:Option Addr)(kg:Nat)(vf:Value)(F:List Int):Prop where
 e:Ext w wr
 hb:w.heap.size<=bx/\bx<b/\b<bn/\bn<wr.heap.size
 x4:wr.cell? ⟨bx,4,none⟩=some (.slice ac x.cells.length kc)
 c:∀o v,#[iv x.room,iv x.used,iv x.born,.slice ar x.regs.length kr,.slice ac x.cells.length kc,iv x.phase,iv x.hand,iv x.sub,.slice ag x.gray.length kg,iv x.per,iv x.start,iv x.rounds,iv x.forced][o]?=some v->wr.cell? ⟨b,o,none⟩=some v
 n13:wr.cell? ⟨b,13,none⟩=some (.slice (some ⟨bn,0,none⟩) x.cells.length x.cells.length)
 n:∀i,i<k->∃bc oc,ac=some ⟨bc,oc,none⟩/\wr.cell? ⟨bn,i*2,none⟩=some (iv i)/\wr.cell? ⟨bn,i*2+1,none⟩=some (.pointer (some ⟨bc,oc+i*8,none⟩))
 o:∀j,j<x.cells.length*2->yZ wr bn j
 f:eX wr (bn+1) b 14 vf F
 fo:Ho F
 fp:F.Perm (a9g x j)
theorem Opn.len(h:Opn w wr x bx b bn k j ar kr ac kc ag kg vf F):F.length<=j:=by
 rw[h.fp.length_eq];exact a4b _ _ _
theorem Opn.same(h:Opn w wr x bx b bn k j ar kr ac kc ag kg vf F)(h1:w'.heap=wr.heap)(h2:w'.os=wr.os)(h3:w'.tape=wr.tape)(h4:w'.output=wr.output):
  Opn w w' x bx b bn k j ar kr ac kc ag kg vf F:=by
 have e:Ext wr w':=⟨h2,h3,h4,by rw[h1];exact Nat.le_refl _,λk _=>by rw[h1]⟩;exact⟨h.e.trans e,⟨h.hb.1,h.hb.2.1,h.hb.2.2.1,by rw[h1];exact h.hb.2.2.2⟩,e.keep h.x4,λo v q=>e.keep (h.c o v q),e.keep h.n13,λi hi=>let ⟨bc,oc,a,p,q⟩:=h.n i hi;⟨bc,oc,a,e.keep p,e.keep q⟩,λj hj=>(h.o j hj).ext e,h.f.ext e,h.fo,h.fp⟩
theorem Opn.lay{bc oc:Nat}(h:Opn w wr x bx b bn k k ar kr ac kc ag kg vf F)(hac:ac=some ⟨bc,oc,none⟩)(hk:k<x.cells.length):
  Opn w ((wr.setCell ⟨bn,k*2,none⟩ (iv k)).setCell ⟨bn,k*2+1,none⟩ (.pointer (some ⟨bc,oc+k*8,none⟩))) x bx b bn (k+1) k ar kr ac kc ag kg vf F:=by
 obtain⟨hb1,hb2,hb3,hb4⟩:=h.hb;have o1:=h.o (k*2) (by omega);have o2:=h.o (k*2+1) (by omega)
 have far:∀B O,B≠bn->((wr.setCell ⟨bn,k*2,none⟩ (iv k)).setCell ⟨bn,k*2+1,none⟩ (.pointer (some ⟨bc,oc+k*8,none⟩))).cell? ⟨B,O,none⟩=wr.cell? ⟨B,O,none⟩:=λB O hB=>by
  rw[uC _ (.inl (λe=>hB e.symm)),uC _ (.inl (λe=>hB e.symm))]
 have farb:∀B:Nat,B≠bn->((wr.setCell ⟨bn,k*2,none⟩ (iv k)).setCell ⟨bn,k*2+1,none⟩ (.pointer (some ⟨bc,oc+k*8,none⟩))).heap[B]?=wr.heap[B]?:=λB hB=>by
  rw[Below.heap_setCell _ _ _ _ (show B≠bn from hB),Below.heap_setCell _ _ _ _ (show B≠bn from hB)]
 refine⟨(h.e.setCell (by show w.heap.size<=bn;omega) _).setCell (by show w.heap.size<=bn;omega) _,⟨hb1,hb2,hb3,by simpa [World.setCell] using hb4⟩,by rw[far _ _ (by omega)];exact h.x4,λo v q=>by rw[far _ _ (by omega)];exact h.c o v q,by rw[far _ _ (by omega)];exact h.n13,λi hi=>?_,λj hj=>((h.o j hj).set _ _).set _ _,⟨by rw[far _ _ (by omega)];exact h.f.hd,?_,?_,h.f.apart⟩,h.fo,h.fp⟩
 ·by_cases e:i=k
  ·subst e;refine⟨bc,oc,hac,?_,(o2.set _ _).same _⟩;rw[uC _ (.inr (by omega))];exact o1.same _
  ·obtain⟨bc',oc',a,p,q⟩:=h.n i (by omega);refine⟨bc',oc',a,?_,?_⟩
   ·rw[uC _ (.inr (by omega)),uC _ (.inr (by omega))];exact p
   ·rw[uC _ (.inr (by omega)),uC _ (.inr (by omega))];exact q
 ·rw[World.frozen?_setCell,World.frozen?_setCell];exact h.f.hf
 ·exact uN h.f.own (λB hB=>farb B (by have:=(h.f.rlt B hB).1;omega))
theorem Opn.skip(h:Opn w wr x bx b bn (k+1) k ar kr ac kc ag kg vf F)(hs:yW x 0 k=false):
  Opn w wr x bx b bn (k+1) (k+1) ar kr ac kc ag kg vf F:=
 ⟨h.e,h.hb,h.x4,h.c,h.n13,h.n,h.o,h.f,h.fo,by unfold a9g;rw[a2r _ _ _ hs];exact h.fp⟩
theorem Opn.put{v':Value}{F':List Int}(h:Opn w wr x bx b bn (k+1) k ar kr ac kc ag kg vf F)(hs:yW x 0 k=true)
  (l:eX w' (bn+1) b 14 v' F') (o:Ho F') (p:F'.Perm ((k:Int)::F)) (q:QFr b 14 vf v' wr w'):Opn w w' x bx b bn (k+1) (k+1) ar kr ac kc ag kg v' F':=by
 obtain⟨hb1,hb2,hb3,hb4⟩:=h.hb;have hv:∀B,B<=bn->vf.ownBlock≠some B:=λB hB e=>by have:=(h.f.rlt B e).1;omega
 refine⟨q.ext h.e (by omega) (λB hB=>by have:=(h.f.rlt B hB).1;omega),⟨hb1,hb2,hb3,Nat.lt_of_lt_of_le hb4 q.size⟩,q.cells h.x4 (by omega) (hv _ (by omega)),λo v hq=>?_,by rw[q.hdr 13 (by omega)];exact h.n13,λi hi=>?_,λj hj=>?_,l,o,?_⟩
 ·have ho:o<13:=by
   rcases Nat.lt_or_ge o 13 with h' | h'
   ·exact h'
   ·rw[Array.getElem?_eq_none (by simpa using h')] at hq;cases hq
  rw[q.hdr o (by omega)];exact h.c o v hq
 ·obtain⟨bc,oc,a,p1,p2⟩:=h.n i hi;exact⟨bc,oc,a,q.cells p1 (by omega) (hv _ (by omega)),q.cells p2 (by omega) (hv _ (by omega))⟩
 ·obtain⟨⟨v,h1⟩,h2⟩:=h.o j hj;refine⟨⟨v,q.cells h1 (by omega) (hv _ (by omega))⟩,?_⟩;rw[World.frozen?_of_block (w:=wr) (a:=⟨bn,j,none⟩) (q.block bn hb4 (by omega) (hv _ (by omega)))];exact h2
 ·unfold a9g;rw[a2q _ _ _ hs];exact(p.trans (h.fp.cons _)).trans (List.perm_append_singleton _ _).symm
theorem Opn.done(h:Opn w wr x bx b bn x.cells.length x.cells.length ar kr ac kc ag kg vf F)
  (hR:SlW w (.slice ar x.regs.length kr) x.regs) (hC:SlC w (.slice ac x.cells.length kc) x.cells) (hG:SlI w (.slice ag x.gray.length kg) x.gray) :
  VAt wr b x ar kr ac kc ag kg (some ⟨bn,0,none⟩) x.cells.length/\FAt wr b x (bn+1) vf F:=
 ⟨⟨c8f x wr b h.c (SlW.ext h.e hR) (SlC.ext h.e hC) (SlI.ext h.e hG),h.n13,λi hi=>let ⟨bc,oc,a,p,q⟩:=h.n i hi;⟨bn,0,bc,oc,rfl,a,by simpa using p,by simpa using q⟩⟩,h.f,h.fo,h.fp⟩
theorem b8v(x:Hp)(w:World)(ar:Option Addr)(kr:Nat)(ac:Option Addr)(kc:Nat)(ag:Option Addr)(kg:Nat):
  ∀o v,#[iv x.room,iv x.used,iv x.born,.slice ar x.regs.length kr,.slice ac x.cells.length kc,iv x.phase,iv x.hand,iv x.sub,.slice ag x.gray.length kg,iv x.per,iv x.start,iv x.rounds,iv x.forced][o]?=some v->((w.alloc (.cells #[iv x.room,iv x.used,iv x.born,.slice ar x.regs.length kr,.slice ac x.cells.length kc,iv x.phase,iv x.hand,iv x.sub,.slice ag x.gray.length kg,iv x.per,iv x.start,iv x.rounds,iv x.forced] 34)).alloc (.cells #[iv x.room,iv x.used,iv x.born,.slice ar x.regs.length kr,.slice ac x.cells.length kc,iv x.phase,iv x.hand,iv x.sub,.slice ag x.gray.length kg,iv x.per,iv x.start,iv x.rounds,iv x.forced,.slice none 0 0,.slice none 0 0] 121)).cell? ⟨w.heap.size+1,o,none⟩=some v:=λo v hv=>by
 have ho:o<13:=by
  rcases Nat.lt_or_ge o 13 with h' | h'
  ·exact h'
  ·rw[Array.getElem?_eq_none (by simpa using h')] at hv;cases hv
 match o,ho with
 | 0,_ | 1,_ | 2,_ | 3,_ | 4,_ | 5,_ | 6,_ | 7,_ | 8,_ | 9,_ | 10,_ | 11,_ | 12,_=>simp [go_sem];exact Option.some.inj hv
theorem SlC.nth(h:SlC w (.slice ac x.cells.length kc) x.cells)(k:Nat)(hk:k<x.cells.length):∃bc oc,ac=some ⟨bc,oc,none⟩/\bc<w.heap.size/\b7p w bc (oc+k*8) (x.c k):=by
 obtain⟨_,_,v,_,C⟩:=h;obtain⟨b',o',a,p⟩:=C k hk;rw[Hp.c_eq] at p;simp only [Value.slice.injEq] at v;exact⟨b',o',v.1.trans a,let ⟨_,p0,_⟩:=p;uL p0,p⟩
theorem Opn.start{w1:World}(z:Array Value)
  (hq:Ext ((w.alloc (.cells #[iv x.room,iv x.used,iv x.born,.slice ar x.regs.length kr,.slice ac x.cells.length kc,iv x.phase,iv x.hand,iv x.sub,.slice ag x.gray.length kg,iv x.per,iv x.start,iv x.rounds,iv x.forced] 34)).alloc (.cells #[iv x.room,iv x.used,iv x.born,.slice ar x.regs.length kr,.slice ac x.cells.length kc,iv x.phase,iv x.hand,iv x.sub,.slice ag x.gray.length kg,iv x.per,iv x.start,iv x.rounds,iv x.forced,.slice none 0 0,.slice none 0 0] 121)) w1) :
  Opn w ((w1.alloc (.cells (madeCells z (x.cells.length*2)) 124)).setCell ⟨w.heap.size+1,13,none⟩ (.slice (some ⟨w1.heap.size,0,none⟩) x.cells.length x.cells.length)) x w.heap.size (w.heap.size+1) w1.heap.size 0 0 ar kr ac kc ag kg (.slice none 0 0) []:=by
 have xe:Ext w ((w.alloc (.cells #[iv x.room,iv x.used,iv x.born,.slice ar x.regs.length kr,.slice ac x.cells.length kc,iv x.phase,iv x.hand,iv x.sub,.slice ag x.gray.length kg,iv x.per,iv x.start,iv x.rounds,iv x.forced] 34)).alloc (.cells #[iv x.room,iv x.used,iv x.born,.slice ar x.regs.length kr,.slice ac x.cells.length kc,iv x.phase,iv x.hand,iv x.sub,.slice ag x.gray.length kg,iv x.per,iv x.start,iv x.rounds,iv x.forced,.slice none 0 0,.slice none 0 0] 121)):=((Ext.refl w).alloc _).alloc _;have hsz:w.heap.size+2<=w1.heap.size:=by have:=hq.size;simp at this;omega
 have old:∀o v,w1.cell? ⟨w.heap.size+1,o,none⟩=some v->o≠13->((w1.alloc (.cells (madeCells z (x.cells.length*2)) 124)).setCell ⟨w.heap.size+1,13,none⟩ (.slice (some ⟨w1.heap.size,0,none⟩) x.cells.length x.cells.length)).cell? ⟨w.heap.size+1,o,none⟩=some v:=λo v h ho=>by
  rw[uC _ (.inr (λe=>ho e.symm))];exact((Ext.refl w1).alloc _).keep h
 have c13:(w1.alloc (.cells (madeCells z (x.cells.length*2)) 124)).cell? ⟨w.heap.size+1,13,none⟩=some (.slice none 0 0):=((Ext.refl w1).alloc _).keep (hq.keep (by simp [go_sem]));have c14:w1.cell? ⟨w.heap.size+1,14,none⟩=some (.slice none 0 0):=hq.keep (by simp [go_sem])
 have f14:w1.frozen? ⟨w.heap.size+1,14,none⟩=false:=by
  rw[hq.frozen (p:=⟨w.heap.size+1,14,none⟩) (by simp)];simp [go_sem]
 refine⟨((xe.trans hq).alloc _).setCell (by show _<=w.heap.size+1;omega) _,⟨Nat.le_refl _,by omega,by omega,by simp [World.setCell]⟩,?_,λo v hv=>old o v (hq.keep (b8v x w ar kr ac kc ag kg o v hv)) ?_,World.cell?_setCell_same _ _ _ c13,λi hi=>by omega,λj hj=>(a7o _ _ _ _ _ hj).set _ _,eX.nil (old 14 _ c14 (by omega)) ?_,Ho.nil,List.Perm.refl _⟩
 ·rw[uC _ (.inl (by omega))];exact((Ext.refl w1).alloc _).keep (hq.keep (by simp [go_sem]))
 ·intro e;rw[e] at hv;simp at hv
 ·rw[World.frozen?_setCell,((Ext.refl w1).alloc _).frozen (p:=⟨w.heap.size+1,14,none⟩) (by show w.heap.size+1<w1.heap.size;omega)];exact f14
theorem b8w(x:Hp)(w:World)(hR:SlW w (.slice ar x.regs.length kr) x.regs)(hC:SlC w (.slice ac x.cells.length kc) x.cells)(hG:SlI w (.slice ag x.gray.length kg) x.gray):
  Calls Tryz.prog 67 #[x.v (.slice ar x.regs.length kr) (.slice ac x.cells.length kc) (.slice ag x.gray.length kg)] w λe w'=>∃b,Hid (e=.returned (.pointer (some ⟨b,0,none⟩)))/\Ext w w'/\Hid ((¬R1 x/\HAt w' b x ar kr ac kc ag kg)\/(R1 x/\∃bx bn vf F,Opn w w' x bx b bn x.cells.length x.cells.length ar kr ac kc ag kg vf F)):=by
 have HSL:=uU (And.intro hR (And.intro hC hG));have lc:x.cells.length<=35184372088832:=let ⟨_,_,_,l,_⟩:=hC;l;clear hR hC hG;go_enter Tryz.func67,Tryz.ntmps67;go_wp2_with fail;have xe:Ext w ((w.alloc (.cells #[iv x.room,iv x.used,iv x.born,.slice ar x.regs.length kr,.slice ac x.cells.length kc,iv x.phase,iv x.hand,iv x.sub,.slice ag x.gray.length kg,iv x.per,iv x.start,iv x.rounds,iv x.forced] 34)).alloc (.cells #[iv x.room,iv x.used,iv x.born,.slice ar x.regs.length kr,.slice ac x.cells.length kc,iv x.phase,iv x.hand,iv x.sub,.slice ag x.gray.length kg,iv x.per,iv x.start,iv x.rounds,iv x.forced,.slice none 0 0,.slice none 0 0] 121)):=((Ext.refl w).alloc _).alloc _;have hh:=c8f x _ (w.heap.size+1) (b8v x w ar kr ac kc ag kg) (SlW.ext xe HSL.1) (SlC.ext xe HSL.2.1) (SlI.ext xe HSL.2.2);refine(a4f x (w.heap.size+1) _ hh).mono ?_;rintro e w1 ⟨r,rfl,hr,hq⟩;have X1:=uU (xe.trans hq);cases r
 ·have N:=uU (show ¬R1 x from λr=>by have:=hr.2 r;simp at this);have H1:=uU (hh.ext hq);clear hr hq hh xe;go_wp2_with fail;go_ret;exact⟨w.heap.size+1,rfl,X1,.inl ⟨N,H1⟩⟩
 have Y:=uU (hr.1 rfl);have hn8:x.cells.length<=8000:=by have:=Y.room;have:=Y.cells;omega
 have hsz:w.heap.size+2<=w1.heap.size:=by have:=hq.size;simp at this;omega
 have hs0:w.heap.size<w1.heap.size:=by omega
 have hs1:w.heap.size+1<w1.heap.size:=by omega
 obtain⟨z,hmk⟩:=mkNodes x.cells.length (by omega) w1;have s0:=Opn.start z hq;rw[World.setCell_alloc_past _ _ _ _ hs1] at s0;have S0:=uU s0;clear s0;have b4:w1.cell? ⟨w.heap.size,4,none⟩=some (.slice ac x.cells.length kc):=hq.keep (by simp [go_sem]);have b13:w1.cell? ⟨w.heap.size+1,13,none⟩=some (.slice none 0 0):=hq.keep (by simp [go_sem])
 have g13:w1.frozen? ⟨w.heap.size+1,13,none⟩=false:=by
  rw[hq.frozen (p:=⟨w.heap.size+1,13,none⟩) (by simp)];simp [go_sem]
 clear hr hh xe hq;go_wp2_with fail;go_loopw [22] (λi wr=>∃(k:Nat) (vf:Value) (F:List Int),k<=x.cells.length/\i=.int .i64 k/\Opn w wr x w.heap.size (w.heap.size+1) w1.heap.size k k ar kr ac kc ag kg vf F) (λi _=>x.cells.length-(intOf i).toNat)
 case atStart=>exact⟨0,_,_,Nat.zero_le _,rfl,S0⟩
 case round=>
  clear S0 b4 b13 g13 hmk;obtain⟨k,vf,F,hk,rfl,hop⟩:=hrel;have HO:=uU hop;by_cases hlt:k<x.cells.length
  ·obtain⟨bc,oc,hac,hbc,vp,p0',_⟩:=SlC.nth HSL.2.1 k hlt;have P0:=uU p0';clear p0';have q4:=hop.x4;have q13:=hop.n13;rw[hac] at q4;obtain⟨⟨u1,v1⟩,f1⟩:=hop.o (k*2) (by omega);obtain⟨⟨u2,v2⟩,f2⟩:=hop.o (k*2+1) (by omega);have hk0:(0:Int)<=(k:Int):=by omega
   have hk1:(k:Int)<(x.cells.length:Int):=by omega
   have hbw:w1.heap.size<wr.heap.size:=hop.hb.2.2.2;have L2:=uU (hop.lay hac hlt);have HAC:=uU hac;clear hop hac;go_wp2_with fail
   go_region
   generalize hW:((wr.setCell ⟨w1.heap.size,k*2,none⟩ (.int .i64 k)).setCell ⟨w1.heap.size,k*2+1,none⟩ (.pointer (some ⟨bc,oc+k*8,none⟩))).drew=W2;have L3:=uU (L2.same (w':=W2) (by rw[<-hW];rfl) (by rw[<-hW];rfl) (by rw[<-hW];rfl) (by rw[<-hW];rfl));have q4':=L3.x4;rw[uH HAC] at q4';have p0:=L3.e.keep P0;have hlen:F.length<=1000000000:=by have:=L3.len;omega
   have hbs:w1.heap.size+1<=W2.heap.size:=L3.hb.2.2.2;clear hW L2 q4 q13 v1 v2 f1 f2 hbw;cases s0:((x.c k).st == 0)
   ·have L4:=uU (L3.skip s0);go_wp2_with fail;go_roundw
    case rel=>exact⟨k+1,vf,F,by omega,by go_num,L4⟩
    case measure=>simp [intOf];omega
   ·go_wp2_with fail;refine(b6r _ (w1.heap.size+1) (w.heap.size+1) 14 vf F (k:Int) L3.f hbs L3.fo (by omega)).mono ?_;rintro e w3 ⟨rfl,v3,F3,l3,o3,p3,q3⟩;have L4:=uU (L3.put s0 l3 o3 p3 q3);clear l3 o3 p3 q3;go_wp2_with fail;go_roundw
    case rel=>exact⟨k+1,v3,F3,by omega,by go_num,L4⟩
    case measure=>simp [intOf];omega
  ·have hk2:k=x.cells.length:=by omega
   subst hk2;have D:=uU hop;have E:=uU hop.e;clear hop hk hlt;go_wp2_with fail;go_ret;exact⟨w.heap.size+1,rfl,E,.inr ⟨Y,_,_,_,_,D⟩⟩
theorem b8x(x:Hp)(w:World)(hR:SlW w (.slice ar x.regs.length kr) x.regs)(hC:SlC w (.slice ac x.cells.length kc) x.cells)(hG:SlI w (.slice ag x.gray.length kg) x.gray):
  Calls Tryz.prog 67 #[x.v (.slice ar x.regs.length kr) (.slice ac x.cells.length kc) (.slice ag x.gray.length kg)] w λe w'=>∃b,Hid (e=.returned (.pointer (some ⟨b,0,none⟩)))/\Ext w w'/\Hid ((¬R1 x/\HAt w' b x ar kr ac kc ag kg)\/(R1 x/\∃an kn base vf F,VAt w' b x ar kr ac kc ag kg an kn/\FAt w' b x base vf F/\Hid (∃bn on,an=some ⟨bn,on,none⟩))):=
 (b8w x w hR hC hG).mono λ_ _ ⟨b,he,hx,h⟩=>⟨b,he,hx,by
  rcases h with h | ⟨h1,bx,bn,vf,F,h2⟩
  ·exact .inl h
  ·exact .inr ⟨h1,_,_,_,_,_,(h2.done hR hC hG).1,(h2.done hR hC hG).2,⟨_,_,rfl⟩⟩⟩
structure Two(w wr:World)(x:Hp)(k:Nat)(v1 v2:Value)(L1 L2:List Int):Prop where
 e:Ext w wr
 s1:eX wr w.heap.size w.heap.size 0 v1 L1
 s2:eX wr w.heap.size (w.heap.size+1) 0 v2 L2
 d1:v1.ownBlock≠some (w.heap.size+1)
 d2:v2.ownBlock≠some w.heap.size
 d3:∀k,v2.ownBlock=some k->v1.ownBlock≠some k
 h1:Ho L1
 h2:Ho L2
 p1:L1.Perm (a8j x k)
 p2:L2.Perm (a5s x k)
theorem Two.len(h:Two w wr x k v1 v2 L1 L2):L1.length<=k/\L2.length<=k:=
 ⟨by rw[h.p1.length_eq];exact a4b _ _ _,by rw[h.p2.length_eq];exact a4b _ _ _⟩
theorem Two.ext(h:Two w wr x k v1 v2 L1 L2)(e:Ext wr w'):Two w w' x k v1 v2 L1 L2:=
 ⟨h.e.trans e,h.s1.ext e,h.s2.ext e,h.d1,h.d2,h.d3,h.h1,h.h2,h.p1,h.p2⟩
theorem Two.skip(h:Two w wr x k v1 v2 L1 L2)(s1:yW x 1 k=false)(s2:yW x 2 k=false):Two w wr x (k+1) v1 v2 L1 L2:=
 ⟨h.e,h.s1,h.s2,h.d1,h.d2,h.d3,h.h1,h.h2,by unfold a8j;rw[a2r _ _ _ s1];exact h.p1,by unfold a5s;rw[a2r _ _ _ s2];exact h.p2⟩
theorem Two.put1{v1':Value}{L1':List Int}(h:Two w wr x k v1 v2 L1 L2)(s1:yW x 1 k=true)(s2:yW x 2 k=false)
  (l:eX w' w.heap.size w.heap.size 0 v1' L1') (o:Ho L1') (p:L1'.Perm (c1e x k::L1)) (q:QFr w.heap.size 0 v1 v1' wr w'):Two w w' x (k+1) v1' v2 L1' L2:=by
 have hs:=h.s2.hlt;refine⟨q.ext h.e (Nat.le_refl _) (λk hk=>(h.s1.rlt k hk).1),l,h.s2.other q (by omega) h.d1 h.d2 h.d3,?_,h.d2,?_,o,h.h2,?_,by unfold a5s;rw[a2r _ _ _ s2];exact h.p2⟩
 ·rcases q.own with e | ⟨g,e,hg⟩
  ·rw[e];exact h.d1
  ·rw[e];intro f;cases f;omega
 ·intro k hk;rcases q.own with e | ⟨g,e,hg⟩
  ·rw[e];exact h.d3 k hk
  ·rw[e];intro f;cases f;have:=(h.s2.rlt k hk).2;omega
 ·unfold a8j;rw[a2q _ _ _ s1];exact(p.trans (h.p1.cons _)).trans (List.perm_append_singleton _ _).symm
theorem Two.put2{v2':Value}{L2':List Int}(h:Two w wr x k v1 v2 L1 L2)(s1:yW x 1 k=false)(s2:yW x 2 k=true)
  (l:eX w' w.heap.size (w.heap.size+1) 0 v2' L2') (o:Ho L2') (p:L2'.Perm (toOf x k::L2)) (q:QFr (w.heap.size+1) 0 v2 v2' wr w'):Two w w' x (k+1) v1 v2' L1 L2':=by
 have hs:=h.s1.hlt;refine⟨q.ext h.e (by omega) (λk hk=>(h.s2.rlt k hk).1),h.s1.other q (by omega) h.d2 h.d1 (λk h1 h2=>h.d3 k h2 h1),l,h.d1,?_,?_,h.h1,o,by unfold a8j;rw[a2r _ _ _ s1];exact h.p1,?_⟩
 ·rcases q.own with e | ⟨g,e,hg⟩
  ·rw[e];exact h.d2
  ·rw[e];intro f;cases f;omega
 ·intro k hk f;rcases q.own with e | ⟨g,e,hg⟩
  ·rw[e] at hk;exact h.d3 k hk f
  ·rw[e] at hk;cases hk;have:=(h.s1.rlt _ f).2;omega
 ·unfold a5s;rw[a2q _ _ _ s2];exact(p.trans (h.p2.cons _)).trans (List.perm_append_singleton _ _).symm
theorem Two.start(w:World)(x:Hp)(a b:TypeId):Two w ((w.alloc (.cells #[.slice none 0 0] a)).alloc (.cells #[.slice none 0 0] b)) x 0 (.slice none 0 0) (.slice none 0 0) [] []:=by
 refine⟨((Ext.refl w).alloc _).alloc _,eX.nil (by simp [go_sem]) (by simp [go_sem]),eX.nil (by simp [go_sem]) (by simp [go_sem]),by simp [Value.ownBlock],by simp [Value.ownBlock],by simp [Value.ownBlock],Ho.nil,Ho.nil,List.Perm.refl _,List.Perm.refl _⟩
theorem b2j{s:Int}(t:Int)(h:((x.c k).st == s)=true)(hne:s≠t):yW x t k=false:=by
 simp [yW] at *;omega
theorem b4x(x:Hp)(b:Nat)(w:World){base:Nat}(h:VAt w b x ar kr ac kc ag kg an kn)(hF:FAt w b x base vf F)(hn:x.cells.length<=8000):
  Calls Tryz.prog 108 #[.pointer (some ⟨b,0,none⟩)] w λe w'=>∃r:Bool,Hid (e=.returned (.bool r))/\(r=true↔R2 x)/\Ext w w':=by
 have n13:=h.n13;have hb:b<w.heap.size:=uL n13;have HV:=uU h;have HFF:=uU hF;clear h hF;go_enter Tryz.func108,Tryz.ntmps108;go_wp2_with fail;go_loopw [12] (λi wr=>∃(k:Nat) (v1 v2:Value) (L1 L2:List Int),k<=x.cells.length/\i=.int .i64 k/\Hid (∀j,j<k->dN x j)/\Two w wr x k v1 v2 L1 L2) (λi _=>x.cells.length-(intOf i).toNat)
 case atStart=>exact⟨0,_,_,[],[],Nat.zero_le _,rfl,λj hj=>by omega,Two.start w x _ _⟩
 case round=>
  clear n13;obtain⟨k,v1,v2,L1,L2,hk,rfl,HA,htwo⟩:=hrel;have TW:=uU htwo;by_cases hlt:k<x.cells.length
  ·have hv:=HV.ext htwo.e;have hff:=HFF.ext htwo.e;obtain⟨bn,on,bc,oc,rfl,rfl,m0,m1⟩:=hv.N k hlt;obtain⟨bc2,oc2,ap,kp,e2,C⟩:=hv.H.cell k hlt;cases e2;have p0:=C.p0;have p4:=C.p4;have p6:=C.p6;have d13:=hv.n13;have HC:=uU C;have HV1:=uU hv;have HF1:=uU hff;have hk0:(0:Int)<=(k:Int):=by omega
   have hk1:(k:Int)<(x.cells.length:Int):=by omega
   have hbs:w.heap.size<=wr.heap.size:=htwo.e.size;have hl1:L1.length<=1000000000:=by have:=htwo.len.1;omega
   have hl2:L2.length<=1000000000:=by have:=htwo.len.2;omega
   clear htwo C hv hff
   have step:dN x k->Hid (∀j,j<k+1->dN x j):=λhc j hj=>by
    by_cases e:j=k
    ·rw[e];exact hc
    ·exact HA j (by omega)
   have ST:=uU step;clear step;cases s0:((x.c k).st == 0)
   ·cases s1:((x.c k).st == 1)
    ·cases s2:((x.c k).st == 2)
     ·have N:=uU (show ¬R2 x from λr=>by
       have:=r.1 k hlt;unfold dN at this;simp at s0 s1 s2;omega)
      go_wp2_with fail;go_ret;exact⟨false,rfl,⟨λf=>by simp at f,λr=>(N r).elim⟩,TW.e⟩
     ·go_wp2_with fail;refine(b4u x b k _ HV1 HF1 hlt bn on rfl).mono ?_;rintro e w2 ⟨r,rfl,hr,hq⟩;have T2:=uU (TW.ext hq);cases r
      ·have N:=uU (show ¬R2 x from λr=>by
        have h2:=r.1 k hlt;unfold dN at h2;have h3:(x.c k).st=2:=by simpa using s2
        have:=hr.2 (by rcases h2 with h2 | h2 | h2 <;> first | exact h2.2 | omega);simp at this)
       clear hr;go_wp2_with fail;go_ret;exact⟨false,rfl,⟨λf=>by simp at f,λr=>(N r).elim⟩,T2.e⟩
      ·have OK:=uU (ST (.inr (.inl ⟨by simpa using s2,hr.1 rfl⟩)));have u6:=hq.keep p6;have um:=hq.keep m1;clear hr;go_wp2_with fail;refine(b6r _ w.heap.size (w.heap.size+1) 0 v2 L2 (x.c k).to T2.s2 (Nat.le_trans hbs hq.size) T2.h2 (by omega)).mono ?_;rintro e w3 ⟨rfl,v3,L3,l3,o3,p3,q3⟩;have T3:=uU (T2.put2 (b2j 1 s2 (by omega)) s2 l3 o3 p3 q3);clear l3 o3 p3 q3;go_wp2_with fail;go_roundw
       case rel=>exact⟨k+1,v1,v3,L1,L3,by omega,by go_num,OK,T3⟩
       case measure=>simp [intOf];omega
    ·go_wp2_with fail;refine(b6q x (x.c k) b bn (on+k*2) _ _ ap kp _ HV1.H.c2 m1 HC).mono ?_;rintro e w2 ⟨r,rfl,hr,hq⟩;have T2:=uU (TW.ext hq);cases r
     ·have N:=uU (show ¬R2 x from λr=>by
       have h2:=r.1 k hlt;unfold dN at h2;have h3:(x.c k).st=1:=by simpa using s1
       have:=hr.2 (by rcases h2 with h2 | h2 | h2 <;> first | exact h2.2 | omega);simp at this)
      clear hr;go_wp2_with fail;go_ret;exact⟨false,rfl,⟨λf=>by simp at f,λr=>(N r).elim⟩,T2.e⟩
     ·have OK:=uU (ST (.inr (.inr ⟨by simpa using s1,hr.1 rfl⟩)));have u4:=hq.keep p4;have um:=hq.keep m1;clear hr;go_wp2_with fail;refine(b6r _ w.heap.size w.heap.size 0 v1 L1 (x.c k).born T2.s1 (Nat.le_trans hbs hq.size) T2.h1 (by omega)).mono ?_;rintro e w3 ⟨rfl,v3,L3,l3,o3,p3,q3⟩;have T3:=uU (T2.put1 s1 (b2j 2 s1 (by omega)) l3 o3 p3 q3);clear l3 o3 p3 q3;go_wp2_with fail;go_roundw
      case rel=>exact⟨k+1,v3,v2,L3,L2,by omega,by go_num,OK,T3⟩
      case measure=>simp [intOf];omega
   ·have S0:=uU (show(x.c k).st=0 by simpa using s0);go_wp2_with fail;refine(b8c (x.c k) bn (on+k*2) _ _ ap kp _ m1 HC).mono ?_;rintro e w2 ⟨rfl,rfl⟩;cases tb:tN (x.c k)
    ·have N:=uU (show ¬R2 x from λr=>by
      have h2:=r.1 k hlt;unfold dN at h2;have h3:=uH S0;have:a5k (x.c k):=by rcases h2 with h2 | h2 | h2 <;> first | exact h2.2.1 | omega
      rw[<-a7t,tb] at this;simp at this)
     go_wp2_with fail;go_ret;exact⟨false,rfl,⟨λf=>by simp at f,λr=>(N r).elim⟩,TW.e⟩
    ·cases tt:((x.c k).to == 0)
     ·have tt2:((x.c k).to != 0)=true:=by simpa using tt
      have N:=uU (show ¬R2 x from λr=>by
       have h2:=r.1 k hlt;unfold dN at h2;have h3:=uH S0;simp at tt;omega)
      go_wp2_with fail;go_ret;exact⟨false,rfl,⟨λf=>by simp at f,λr=>(N r).elim⟩,TW.e⟩
     ·have tt2:((x.c k).to != 0)=false:=by simpa using tt
      have OK:=uU (ST (.inl ⟨S0,a7t.1 tb,by simpa using tt⟩));have T3:=uU (TW.skip (b2j 1 s0 (by omega)) (b2j 2 s0 (by omega)));go_wp2_with fail;go_roundw
      case rel=>exact⟨k+1,v1,v2,L1,L2,by omega,by go_num,OK,T3⟩
      case measure=>simp [intOf];omega
  ·have hk2:k=x.cells.length:=by omega
   have A1:=uU (show ∀j,j<x.cells.length->dN x j from λj hj=>uH HA j (by omega));have AP:=uU (c4q x A1);have P1:=uU (show L1.Nodup↔(a8j x x.cells.length).Nodup by have:=htwo.p1;rw[hk2] at this;exact this.nodup_iff);have P2:=uU (show L2.Nodup↔(a5s x x.cells.length).Nodup by have:=htwo.p2;rw[hk2] at this;exact this.nodup_iff);have hl1:L1.length<=1000000000:=by have:=htwo.len.1;omega
   have hl2:L2.length<=1000000000:=by have:=htwo.len.2;omega
   clear htwo hk2;go_wp2_with fail;refine(b2z _ w.heap.size w.heap.size 0 v1 L1 TW.s1 TW.h1 hl1).mono ?_;rintro e w2 ⟨r,rfl,hr,v3,q3⟩;have E2:=uU (q3.ext TW.e (Nat.le_refl _) (λk hk=>(TW.s1.rlt k hk).1));have S2:=uU (TW.s2.other q3 (by omega) TW.d1 TW.d2 TW.d3);clear q3;cases r
   ·have N:=uU (show ¬R2 x from λr=>by
     have:=hr.2 (P1.2 (AP.1 r.2).1);simp at this)
    clear hr;go_wp2_with fail;go_ret;exact⟨false,rfl,⟨λf=>by simp at f,λr=>(N r).elim⟩,E2⟩
   ·have B1:=uU (P1.1 (hr.1 rfl));clear hr;go_wp2_with fail;refine(b2z _ w.heap.size (w.heap.size+1) 0 v2 L2 S2 TW.h2 hl2).mono ?_;rintro e w3 ⟨r,rfl,hr,v4,q4⟩;have E3:=uU (q4.ext E2 (by omega) (λk hk=>(S2.rlt k hk).1));have RR:=uU (show r=true↔R2 x from⟨λe=>⟨A1,AP.2 ⟨B1,P2.1 (hr.1 e)⟩⟩,λq=>hr.2 (P2.2 (AP.1 q.2).2)⟩);clear q4 hr;go_wp2_with fail;go_ret;exact⟨r,rfl,RR,E3⟩
theorem a7d(x:Hp)(b n cap:Nat)(ap:Option Addr)(f:Nat->Pr)(s:Bool)(hs:s=true↔∃k,k<n/\(hwB x (f k).key=true\/hwB x (f k).val=true))(w:World)(h:VAt w b x ar kr ac kc ag kg an kn)
  (lp:n<=35184372088832) (P:∀k,k<n->∃b' o',ap=some ⟨b',o',none⟩/\zW w b' (o'+k*6) (f k)) (hF:∀k,k<n->uJ (f k).key x.cells.length/\uJ (f k).val x.cells.length) :
  Calls Tryz.prog 185 #[.pointer (some ⟨b,0,none⟩),.slice ap n cap] w λe w'=>e=.returned (.bool s)/\Ext w w':=
 (a3q x b n cap ap f w h lp P hF).mono λe w' ⟨r,he,hr,hx⟩=>by
  have:r=s:=by rw[Bool.eq_iff_iff];exact hr.trans hs.symm
  rw[<-this];exact⟨he,hx⟩
theorem b4y(x:Hp)(b:Nat)(w:World)(h:VAt w b x ar kr ac kc ag kg an kn)(hcap:a2k w x ac)(r1:R1 x)(r2:R2 x)(r4:R4 x)(r5:R5 x)(r6:R6 x):
  Calls Tryz.prog 113 #[.pointer (some ⟨b,0,none⟩)] w λe w'=>∃r:Bool,Hid (e=.returned (.bool r))/\(r=true↔R7 x)/\Ext w w':=by
 have c5:=h.H.c5;have n13:=h.n13;have HV:=uU h;have HCAP:=uU hcap;have lc:=h.H.lc;have hsub0:0<=x.sub:=r1.sub.1;have Q2:=uU r2;have Q4:=uU r4;have Q5:=uU r5;have Q6:=uU r6;clear h hcap r1 r2 r4 r5 r6;cases tm:a1s x
 ·have Y:=uU (show R7 x from λm=>by rw[<-a2b,tm] at m;simp at m);go_enter Tryz.func113,Tryz.ntmps113;go_wp2_with fail;refine(a8n x b false tm _ c5).mono ?_;rintro e w1 ⟨rfl,rfl⟩;go_wp2_with fail;go_ret;exact⟨true,rfl,⟨λ_=>uH Y,λ_=>rfl⟩,Ext.refl _⟩
 have MM:=uU (a2b.1 tm);have IFF:=uU (R7_iff Q2 Q4 Q5 Q6 MM);go_enter Tryz.func113,Tryz.ntmps113;go_wp2_with fail;refine(a8n x b true tm _ c5).mono ?_;rintro e w1 ⟨rfl,rfl⟩;go_wp2_with fail;go_loopw [13] (λi wr=>∃(k:Nat),k<=x.cells.length/\i=.int .i64 k/\Hid (∀i,i<k->¬(a0q (x.c i)=true/\qJ (x.c i)=true/\(x.phase=2\/(i:Int)<x.hand))/\((x.c i).color=2->¬∃k,k<(x.c i).prs.length/\(hwB x ((x.c i).p k).key=true\/hwB x ((x.c i).p k).val=true)))/\Ext w1 wr) (λi _=>x.cells.length-(intOf i).toNat)
 case atStart=>exact⟨0,Nat.zero_le _,rfl,λj hj=>by omega,Ext.refl _⟩
 case round=>
  clear n13 c5;obtain⟨k,hk,rfl,HA,hbl⟩:=hrel;by_cases hlt:k<x.cells.length
  ·have hv:=HV.ext hbl;obtain⟨bn,on,bc,oc,rfl,rfl,m0,m1⟩:=hv.N k hlt;obtain⟨bc2,oc2,ap,kp,e2,C⟩:=hv.H.cell k hlt;cases e2;have d13:=hv.n13;have HV1:=uU hv;have HC:=uU C;have HPP:=uU C.P;have p5:=C.p5;have p7:=C.p7;have lp:=C.lp;have hk0:(0:Int)<=(k:Int):=by omega
   have hk1:(k:Int)<(x.cells.length:Int):=by omega
   clear hv C;have FF:=uU (λl (hl:l<(x.c k).prs.length)=>(a8o Q4 MM k l hlt hl).1)
   have ST:=uU (show ¬(a0q (x.c k)=true/\qJ (x.c k)=true/\(x.phase=2\/(k:Int)<x.hand))->((x.c k).color=2->¬∃l,l<(x.c k).prs.length/\(hwB x ((x.c k).p l).key=true\/hwB x ((x.c k).p l).val=true))->∀i,i<k+1->¬(a0q (x.c i)=true/\qJ (x.c i)=true/\(x.phase=2\/(i:Int)<x.hand))/\((x.c i).color=2->¬∃k,k<(x.c i).prs.length/\(hwB x ((x.c i).p k).key=true\/hwB x ((x.c i).p k).val=true)) from λh1 h2 j hj=>by
    by_cases e:j=k
    ·rw[e];exact⟨h1,h2⟩
    ·exact HA j (by omega))
   cases ts:a0q (x.c k)
   ·have H1:=uU (show ¬(a0q (x.c k)=true/\qJ (x.c k)=true/\(x.phase=2\/(k:Int)<x.hand)) from λq=>by rw[ts] at q;simp at q);go_wp2_with fail;refine(a2s (x.c k) bn (on+k*2) _ _ ap kp _ m1 HC).mono ?_;rintro e w2 ⟨rfl,rfl⟩;rw[ts];cases tc:((x.c k).color == 2)
    ·have OK:=uU (ST H1 (λe=>by rw[e] at tc;simp at tc));go_wp2_with fail;go_roundw
     case rel=>exact⟨k+1,by omega,by go_num,OK,hbl⟩
     case measure=>simp [intOf];omega
    ·go_wp2_with fail;refine(a3q x b (x.c k).prs.length kp ap (x.c k).p _ (HV.ext hbl) lp HPP FF).mono ?_;rintro e w6 ⟨r,rfl,hr,hq6⟩;have x6:=Ext.trans hbl hq6;cases r
     ·have OK:=uU (ST H1 (λ_ q=>by have:=hr.2 q;simp at this));clear hr;go_wp2_with fail;go_roundw
      case rel=>exact⟨k+1,by omega,by go_num,OK,x6⟩
      case measure=>simp [intOf];omega
     ·have N:=uU (show ¬R7 x from λr7=>((IFF.1 r7).1 k hlt).2 (by simpa using tc) (hr.1 rfl));clear hr;go_wp2_with fail;go_ret;exact⟨false,rfl,⟨λf=>by simp at f,λr=>(N r).elim⟩,x6⟩
   ·cases tw:qJ (x.c k)
    ·have H1:=uU (show ¬(a0q (x.c k)=true/\qJ (x.c k)=true/\(x.phase=2\/(k:Int)<x.hand)) from λq=>by rw[tw] at q;simp at q);go_wp2_with fail;refine(a2s (x.c k) bn (on+k*2) _ _ ap kp _ m1 HC).mono ?_;rintro e w2 ⟨rfl,rfl⟩;rw[ts];go_wp2_with fail;refine(a4x (x.c k) bn (on+k*2) _ _ ap kp _ m1 HC).mono ?_;rintro e w3 ⟨rfl,rfl⟩;rw[tw];cases tc:((x.c k).color == 2)
     ·have OK:=uU (ST H1 (λe=>by rw[e] at tc;simp at tc));go_wp2_with fail;go_roundw
      case rel=>exact⟨k+1,by omega,by go_num,OK,hbl⟩
      case measure=>simp [intOf];omega
     ·go_wp2_with fail;refine(a3q x b (x.c k).prs.length kp ap (x.c k).p _ (HV.ext hbl) lp HPP FF).mono ?_;rintro e w6 ⟨r,rfl,hr,hq6⟩;have x6:=Ext.trans hbl hq6;cases r
      ·have OK:=uU (ST H1 (λ_ q=>by have:=hr.2 q;simp at this));clear hr;go_wp2_with fail;go_roundw
       case rel=>exact⟨k+1,by omega,by go_num,OK,x6⟩
       case measure=>simp [intOf];omega
      ·have N:=uU (show ¬R7 x from λr7=>((IFF.1 r7).1 k hlt).2 (by simpa using tc) (hr.1 rfl));clear hr;go_wp2_with fail;go_ret;exact⟨false,rfl,⟨λf=>by simp at f,λr=>(N r).elim⟩,x6⟩
    ·cases tr:((x.phase == 2) || decide ((k:Int)<x.hand))
     ·have H1:=uU (show ¬(a0q (x.c k)=true/\qJ (x.c k)=true/\(x.phase=2\/(k:Int)<x.hand)) from λq=>by
       have:=q.2.2;simp at tr;omega)
      go_wp2_with fail;refine(a2s (x.c k) bn (on+k*2) _ _ ap kp _ m1 HC).mono ?_;rintro e w2 ⟨rfl,rfl⟩;rw[ts];go_wp2_with fail;refine(a4x (x.c k) bn (on+k*2) _ _ ap kp _ m1 HC).mono ?_;rintro e w3 ⟨rfl,rfl⟩;rw[tw];go_wp2_with fail;refine(a9j x b bn (on+k*2) k _ HV1.H.c5 HV1.H.c6 m0).mono ?_;rintro e w4 ⟨rfl,hq4⟩;rw[tr];have x4:=hbl.trans hq4;have PP4:=uU ((HC.ext hq4).P);have m1':=hq4.keep m1;have p5':=hq4.keep p5;have p7':=hq4.keep p7;clear m1 p5 p7;cases tc:((x.c k).color == 2)
      ·have OK:=uU (ST H1 (λe=>by rw[e] at tc;simp at tc));go_wp2_with fail;go_roundw
       case rel=>exact⟨k+1,by omega,by go_num,OK,x4⟩
       case measure=>simp [intOf];omega
      ·go_wp2_with fail;refine(a3q x b (x.c k).prs.length kp ap (x.c k).p _ (HV.ext x4) lp PP4 FF).mono ?_;rintro e w6 ⟨r,rfl,hr,hq6⟩;have x6:=Ext.trans x4 hq6;cases r
       ·have OK:=uU (ST H1 (λ_ q=>by have:=hr.2 q;simp at this));clear hr;go_wp2_with fail;go_roundw
        case rel=>exact⟨k+1,by omega,by go_num,OK,x6⟩
        case measure=>simp [intOf];omega
       ·have N:=uU (show ¬R7 x from λr7=>((IFF.1 r7).1 k hlt).2 (by simpa using tc) (hr.1 rfl));clear hr;go_wp2_with fail;go_ret;exact⟨false,rfl,⟨λf=>by simp at f,λr=>(N r).elim⟩,x6⟩
     ·have N:=uU (show ¬R7 x from λr7=>((IFF.1 r7).1 k hlt).1 ⟨ts,tw,by simpa using tr⟩);go_wp2_with fail;refine(a2s (x.c k) bn (on+k*2) _ _ ap kp _ m1 HC).mono ?_;rintro e w2 ⟨rfl,rfl⟩;rw[ts];go_wp2_with fail;refine(a4x (x.c k) bn (on+k*2) _ _ ap kp _ m1 HC).mono ?_;rintro e w3 ⟨rfl,rfl⟩;rw[tw];go_wp2_with fail;refine(a9j x b bn (on+k*2) k _ HV1.H.c5 HV1.H.c6 m0).mono ?_;rintro e w4 ⟨rfl,hq4⟩;rw[tr];have x4:=hbl.trans hq4;go_wp2_with fail;go_ret;exact⟨false,rfl,⟨λf=>by simp at f,λr=>(N r).elim⟩,x4⟩
  ·have A1:=uU (show R7b x from λi hi=>uH HA i (by omega));have hv:=HV.ext hbl;have d7:=hv.H.c7;have HV1:=uU hv;obtain⟨s,hs⟩:∃s:Nat,x.sub=(s:Int):=⟨x.sub.toNat,by omega⟩;rw[hs] at d7;have HS:=uU hs;have F0:∀w',Up wr w'->w'.cell? ⟨b,7,none⟩=some (iv (s:Int)):=λw' e=>e.ext.keep d7
   clear hv hs hsub0;by_cases hg:x.gray.length=0
   ·have d8:=HV1.H.c8;rw[hg] at d8
    have hs0:s=0:=by
     have h6:=uH Q6;have hm:=uH MM;have:=uH HS;unfold uE at hm;rcases hm with hm | hm
     ·have:=h6.2.2.2 (.inl hm);omega
     ·have:=(h6.2.1 hm).2.1 hg;omega
    subst hs0;have Y:=uU (show R7 x from IFF.2 ⟨A1,λ_ g=>(g hg).elim⟩);have HG:=uU (λw' (e:Up wr w')=>a3a ((a6v b w' (e.ext.keep d8)).mono λ_ _ ⟨he,hw⟩=>⟨he,hw ▸ Ext.refl w'⟩) e);have HW:=uU (λw' (e:Up wr w')=>a3a (a7d x b 0 0 none (λ_=>Pr0) false (by simp) w' (HV1.ext e.ext) (by omega) (λk hk=>by omega) (λk hk=>by omega)) e);go_wp2_with fail;refine wp_region_quiet (C:=Up wr) (by kernel_rfl) (by kernel_rfl) (show Ext _ _ from(Ext.refl _).drew) ?_
    go_simp
    iterate 12 (first | go_big_quiet_skip | (go_big_quiet_want;go_big_quiet_op;first | go_big_quiet_on | (apply Exists.intro;refine⟨λw' hw'=>?_,?_⟩;(first | (go_at_call 182;exact(uH HG w' hw')) | (go_at_call 185;exact(uH HW w' hw')) | (with_reducible rfl) | (go_simp;first | done | (with_reducible rfl) | (refine⟨?_,?_⟩ <;> with_reducible rfl)));go_big_quiet_on)))
    refine wpQuiet_nil ?_;intro w3 hq3;have x3:=hbl.trans hq3.ext;clear F0 HG HW;go_wp2_with fail;go_ret;exact⟨true,rfl,⟨λ_=>uH Y,λ_=>rfl⟩,x3⟩
   ·obtain⟨g1,g2,g3⟩:=g0_ok Q5 hg;obtain⟨bc,oc,ap,kp,e2,C⟩:=HV1.H.cell x.g0 g1;have hg0:0<x.gray.length:=by omega
    have hgi:x.gray[0]=(x.g0:Int):=by rw[<-g2];simp [hg0]
    have hsn:s<=(x.c x.g0).prs.length:=by
     have h6:=uH Q6;have hm:=uH MM;have:=uH HS;unfold uE at hm;rcases hm with hm | hm
     ·have:=h6.2.2.2 (.inl hm);omega
     ·have:=(h6.2.1 hm).2.2 hg;omega
    have hsk:s<=kp:=by
     have hc:=(a2k.ext HCAP HV.H hbl) x.g0 g1 bc oc ap (x.c x.g0).prs.length kp e2 C.p7;omega
    have i0:(0:Int)<=(s:Int):=by omega
    have i1:(s:Int)<=(kp:Int):=by omega
    have hlp:s<=35184372088832:=by have:=C.lp;omega
    have HG:=uU (λw' (e:Up wr w')=>a3a ((a6w x b x.g0 w' (HV1.ext e.ext) hg0 hgi g1 bc oc ap kp e2 (C.ext e.ext)).mono λ_ _ ⟨he,m,hw⟩=>⟨he,hw ▸ (Ext.refl w').drewN m⟩) e);have FF:=uU (λl (hl:l<s)=>(a8o Q4 MM x.g0 l g1 (by omega)).1);have CC:=uU C
    have PH2:=uU (show x.phase=2\/s=0 by
     have h6:=uH Q6;have hm:=uH MM;have:=uH HS;unfold uE at hm;rcases hm with hm | hm
     ·have:=h6.2.2.2 (.inl hm);omega
     ·exact .inl hm)
    have R7C:=uU (show R7c x↔¬∃k,k<s/\(hwB x ((x.c x.g0).p k).key=true\/hwB x ((x.c x.g0).p k).val=true) by
     have e1:x.sub.toNat=s:=by have:=uH HS;omega
     constructor
     ·rintro h ⟨k,hk,hw⟩;rcases uH PH2 with p | p
      ·exact h p hg k (by rw[e1];exact hk) hw
      ·omega
     ·intro h _ _ k hk hw;exact h ⟨k,by rw[e1] at hk;exact hk,hw⟩)
    clear C;by_cases hex:∃k,k<s/\(hwB x ((x.c x.g0).p k).key=true\/hwB x ((x.c x.g0).p k).val=true)
    ·have N:=uU (show ¬R7 x from λr7=>R7C.1 (IFF.1 r7).2 hex);have HW:=uU (λw' (e:Up wr w')=>a3a (a7d x b s kp ap (x.c x.g0).p true ⟨λ_=>hex,λ_=>rfl⟩ w' (HV1.ext e.ext) hlp (λk hk=>(CC.ext e.ext).P k (by omega)) FF) e);clear hex;go_wp2_with fail;refine wp_region_quiet (C:=Up wr) (by kernel_rfl) (by kernel_rfl) (show Ext _ _ from(Ext.refl _).drew) ?_
     go_simp
     iterate 12 (first | go_big_quiet_skip | (go_big_quiet_want;go_big_quiet_op;first | go_big_quiet_on | (apply Exists.intro;refine⟨λw' hw'=>?_,?_⟩;(first | (go_at_call 182;exact(uH HG w' hw')) | (go_at_call 185;exact(uH HW w' hw')) | (with_reducible rfl) | (go_simp;first | done | (with_reducible rfl) | (refine⟨?_,?_⟩ <;> with_reducible rfl)));go_big_quiet_on)))
     refine wpQuiet_nil ?_;intro w3 hq3;have x3:=hbl.trans hq3.ext;clear F0 HG HW;go_wp2_with fail;go_ret;exact⟨false,rfl,⟨λf=>by simp at f,λr=>(N r).elim⟩,x3⟩
    ·have Y:=uU (show R7 x from IFF.2 ⟨A1,R7C.2 hex⟩);have HW:=uU (λw' (e:Up wr w')=>a3a (a7d x b s kp ap (x.c x.g0).p false ⟨λf=>by simp at f,λq=>(hex q).elim⟩ w' (HV1.ext e.ext) hlp (λk hk=>(CC.ext e.ext).P k (by omega)) FF) e);clear hex;go_wp2_with fail;refine wp_region_quiet (C:=Up wr) (by kernel_rfl) (by kernel_rfl) (show Ext _ _ from(Ext.refl _).drew) ?_
     go_simp
     iterate 12 (first | go_big_quiet_skip | (go_big_quiet_want;go_big_quiet_op;first | go_big_quiet_on | (apply Exists.intro;refine⟨λw' hw'=>?_,?_⟩;(first | (go_at_call 182;exact(uH HG w' hw')) | (go_at_call 185;exact(uH HW w' hw')) | (with_reducible rfl) | (go_simp;first | done | (with_reducible rfl) | (refine⟨?_,?_⟩ <;> with_reducible rfl)));go_big_quiet_on)))
     refine wpQuiet_nil ?_;intro w3 hq3;have x3:=hbl.trans hq3.ext;clear F0 HG HW;go_wp2_with fail;go_ret;exact⟨true,rfl,⟨λ_=>uH Y,λ_=>rfl⟩,x3⟩
end Go.Proofs.YtddkhnclmeikfaaGreat
