import Derived.Test.YtddkhnclmeikfaaGreatSpecA
import Derived.Test.YtddkhnclmeikfaaGreatImpR
import Derived.Test.YtddkhnclmeikfaaGreatAg
set_option maxRecDepth 100000
set_option maxHeartbeats 4000000
namespace Go.Proofs.YtddkhnclmeikfaaGreat
open Go.RowKit
attribute [local go_sem ↓] Go.wp_at_zero Go.wp_at_succ
structure Cpl(w w4 wr:World)(x:Hp)(vr vc vg:Value)(pv vp:Nat→Value)(k:Nat):Prop where
 bx:HBox wr w.heap.size x vr vc vg
 s:∀q,q<x.cells.length→S7 wr (vblk vc) (q*8) (x.c q)
 p7:∀q,q<x.cells.length→wr.cell? ⟨vblk vc,q*8+7,none⟩=some (if q<k then pv q else vp q)
 pr:∀q,q<x.cells.length→q<k→wr.ownsRow w4.heap.size 154 6 (pv q) (x.c q).prs.length ((x.c q).prs.flatMap fP)
 dp:∀q q',q<k→q'<k→q≠q'→∀b,(pv q).ownBlock=some b→(pv q').ownBlock≠some b
 on:Only (fun q=>q=vblk vc∧0<x.cells.length) w4 wr
 nf:0<x.cells.length→Nf1 (vblk vc) wr
theorem Cpl.step{w w4 wr w5:World}{x:Hp}{vr vc vg v':Value}{pv vp:Nat→Value}{k:Nat}(h:Cpl w w4 wr x vr vc vg pv vp k)(hk:k<x.cells.length)(hvc:w.heap.size+2≤vblk vc∧vblk vc<w4.heap.size)(e:Ext wr w5)(ho:w5.ownsRow wr.heap.size 154 6 v' (x.c k).prs.length ((x.c k).prs.flatMap fP)):
  Cpl w w4 (w5.setCell ⟨vblk vc,k*8+7,none⟩ v') x vr vc vg (fun q=>if q=k then v' else pv q) vp (k+1):=by
 have h4:=h.on.size;have far:∀b,b≠vblk vc→(w5.setCell ⟨vblk vc,k*8+7,none⟩ v').heap[b]?=w5.heap[b]?:=fun b hb=>Below.heap_setCell _ _ _ _ hb
 refine⟨(h.bx.ext e).far _ _ _ (.inl (by omega)),fun q hq=>?_,fun q hq=>?_,fun q hq hqk=>?_,fun q q' hq hq' hne b hb=>?_,?_,fun hn=>((h.nf hn).ext e).set _ _⟩
 ·refine(h.s q hq).of fun j hj=>?_
  rw[cell_other _ (.inr (by omega))];exact e.cell (p:=⟨vblk vc,_,none⟩) (by show vblk vc<_;omega)
 ·by_cases hqk:q=k
  ·subst hqk;rw[if_pos (by omega),if_pos rfl];exact World.cell?_setCell_same _ _ _ (e.keep (h.p7 q hq))
  ·rw[cell_other _ (.inr (by omega)),if_neg hqk];have:=e.keep (h.p7 q hq);rw[this];by_cases hlt:q<k
   ·rw[if_pos hlt,if_pos (by omega)]
   ·rw[if_neg hlt,if_neg (by omega)]
 ·by_cases hqe:q=k
  ·subst hqe;simp only [if_pos];exact own_less (ownsRow_of_block ho (fun b hb=>far b (by have:=(ho.lt b hb).1;omega))) h4
  ·simp only [if_neg hqe];have hq2:=h.pr q hq (by omega);exact ownsRow_of_block hq2 (fun b hb=>(far b (by have:=(hq2.lt b hb).1;omega)).trans (e.block b (hq2.lt b hb).2))
 ·by_cases h1:q=k <;> by_cases h2:q'=k
  ·omega
  ·rw[if_pos h1] at hb;rw[if_neg h2];intro hb';have:=(ho.lt b hb).1;have:=((h.pr q' (by omega) (by omega)).lt b hb').2;omega
  ·rw[if_neg h1] at hb;rw[if_pos h2];intro hb';have:=(ho.lt b hb').1;have:=((h.pr q (by omega) (by omega)).lt b hb).2;omega
  ·rw[if_neg h1] at hb;rw[if_neg h2];exact h.dp q q' (by omega) (by omega) hne b hb
 ·exact(h.on.trans (Only.of_ext e)).setCell ⟨rfl,by omega⟩ _
theorem CvAt.ext{w w':World}(e:Ext w w'){b o:Nat}{z:Cl×Value}(h:CvAt w b o z):CvAt w' b o z:=fun j hj=>by
 have:=h j hj;cases hc:(fC z)[j]? with
 | none=>match j,hj with | 0,_ | 1,_ | 2,_ | 3,_ | 4,_ | 5,_ | 6,_ | 7,_=>simp [fC] at hc
 | some y=>rw[hc] at this;exact e.keep this
theorem Cpl.start{w w4:World}{B:Nat}{x:Hp}{vr vc vg v4:Value}{L:List (Cl×Value)}(hL:L.map (·.1)=x.cells)(hb:HBox w4 w.heap.size x vr v4 vg)(ho:w4.ownsRow B 62 8 vc L.length (L.flatMap fC))(hB:w.heap.size<B):
  Cpl w (w4.setCell ⟨w.heap.size,4,none⟩ vc) (w4.setCell ⟨w.heap.size,4,none⟩ vc) x vr vc vg (fun _=>.slice none 0 0) (fun q=>(L.getD q (Cl0,.slice none 0 0)).2) 0:=by
 have hLl:L.length=x.cells.length:=by rw[←hL,List.length_map]
 have hc:∀q,q<x.cells.length→∀j,j<8→(w4.setCell ⟨w.heap.size,4,none⟩ vc).cell? ⟨vblk vc,q*8+j,none⟩=(fC (L.getD q (Cl0,.slice none 0 0)))[j]?:=fun q hq j hj=>by
  have h1:=own_nf ho (by omega);rw[cell_other _ (.inl (by have:=h1.2;omega)),own_at (f:=fC) (fun _=>rfl) ho q (by omega) j hj]
  congr 2
  simp [hLl,hq]
 have h1:∀q,q<x.cells.length→(L.getD q (Cl0,.slice none 0 0)).1=x.c q:=fun q hq=>by
  have e:x.cells[q]=(L.map (·.1))[q]'(by simpa [hLl] using hq):=by simp [hL]
  rw[←Hp.c_eq x q hq,e];simp [hLl,hq]
 refine⟨hb.set4 vc,fun q hq=>?_,fun q hq=>?_,fun q _ hq=>by omega,fun q q' hq=>by omega,Only.refl _ _,fun hn=>(own_nf ho (by omega)).1.set _ _⟩
 ·have:=hc q hq;rw[←h1 q hq];exact⟨this 0 (by omega),this 1 (by omega),this 2 (by omega),this 3 (by omega),this 4 (by omega),this 5 (by omega),this 6 (by omega)⟩
 ·rw[if_neg (by omega)];exact hc q hq 7 (by omega)
def CapP(x:Hp)(pk:Nat→Nat):Prop:=∀q,q<x.cells.length→(x.c q).prs.length≤pk q
theorem own_capV{w:World}{B:Nat}{t:TypeId}{c n:Nat}{v:Value}{xs:List Value}(h:w.ownsRow B t c v n xs):n≤vcap v:=by
 rcases h.2 with⟨rfl,rfl⟩ | ⟨g,cap,cur,rfl,_,_,h4,_⟩
 ·exact Nat.le_refl _
 ·exact h4
def HOwn(B:Nat)(w:World)(x:Hp)(vr vc:Value):Prop:=∃br bc pb pa pk ar kr ac kc,vr=.slice ar x.regs.length kr∧(0<x.regs.length→ar=some ⟨br,0,none⟩)∧vc=.slice ac x.cells.length kc∧(0<x.cells.length→ac=some ⟨bc,0,none⟩)∧Rws B w x br bc pb pa pk∧CapP x pk
theorem HOwn.ext{B:Nat}{w w':World}{x:Hp}{vr vc:Value}(h:HOwn B w x vr vc)(e:Ext w w'):HOwn B w' x vr vc:=by
 obtain⟨br,bc,pb,pa,pk,ar,kr,ac,kc,h1,h2,h3,h4,h5,h6⟩:=h;exact⟨br,bc,pb,pa,pk,ar,kr,ac,kc,h1,h2,h3,h4,h5.ext e,h6⟩
theorem copied_any(x:Hp)(ag:Option Addr)(ng kg:Nat)(w:World){ar:Option Addr}{kr:Nat}{ac:Option Addr}{kc:Nat}(hR:SlW w (.slice ar x.regs.length kr) x.regs)(hC:SlC w (.slice ac x.cells.length kc) x.cells)(n1:x.regs.length≤1048576)(n2:x.cells.length≤8000)(n3:∀q,q<x.cells.length→(x.c q).prs.length≤200):
  Calls Tryz.prog 139 #[x.v (.slice ar x.regs.length kr) (.slice ac x.cells.length kc) (.slice ag ng kg)] w fun e w'=>∃vr vc,e=.returned (x.v vr vc (.slice ag ng kg))∧Hid (HOwn w.heap.size w' x vr vc)∧Ext w w':=by
 obtain⟨L,hL,hLs,hLp⟩:=slC_pick hC;have hLl:L.length=x.cells.length:=by rw[←hL,List.length_map]
 have HLS:=hide hLs;have HLP:=hide hLp;have HL:=hide hL;have SR:=hide hR;clear hR hC hL hLs hLp;have xa:=((Ext.refl w).alloc (.cells #[iv x.room,iv x.used,iv x.born,.slice ar x.regs.length kr,.slice ac x.cells.length kc,iv x.phase,iv x.hand,iv x.sub,(.slice ag ng kg),iv x.per,iv x.start,iv x.rounds,iv x.forced] 34)).alloc (.cells #[iv 0,iv 0,iv 0,.slice none 0 0,.slice none 0 0,iv 0,iv 0,iv 0,.slice none 0 0,iv 0,iv 0,iv 0,iv 0] 34);have B2:=(HBox.new w x (.slice ar x.regs.length kr) (.slice ac x.cells.length kc) (.slice ag ng kg) 34).ext ((Ext.refl _).alloc (.cells #[iv 0,iv 0,iv 0,.slice none 0 0,.slice none 0 0,iv 0,iv 0,iv 0,.slice none 0 0,iv 0,iv 0,iv 0,iv 0] 34));go_enter Tryz.func139,Tryz.ntmps139;go_wp2_with fail;refine(cloneW_any x.regs _ _ (SlW.ext xa (unhide SR)) n1).mono ?_;rintro e w3 ⟨vr,rfl,hor,q3⟩;obtain⟨avr,kvr,hvr⟩:∃a k,vr=.slice a x.regs.length k:=⟨_,_,(own_form hor).1⟩;subst hvr;have hz3:w.heap.size+2≤w3.heap.size:=by have:=q3.size;simp at this;omega
 have B3:=hide (B2.ext q3);have X3:=xa.trans q3;have OR:=hide hor;have c3:=(unhide B3).2.2.2.1;have c4:=(unhide B3).2.2.2.2.1;have fz:∀o,w3.frozen? ⟨w.heap.size,o,none⟩=false:=fun o=>((bcell q3).2 w.heap.size o (by simp;omega)).trans (by simp [go_sem])
 have f3:=fz 3;have FZ:=hide fz;have rc:=hide (show ∀o v,((w.alloc (.cells #[iv x.room,iv x.used,iv x.born,.slice ar x.regs.length kr,.slice ac x.cells.length kc,iv x.phase,iv x.hand,iv x.sub,(.slice ag ng kg),iv x.per,iv x.start,iv x.rounds,iv x.forced] 34)).alloc (.cells #[iv 0,iv 0,iv 0,.slice none 0 0,.slice none 0 0,iv 0,iv 0,iv 0,.slice none 0 0,iv 0,iv 0,iv 0,iv 0] 34)).cell? ⟨w.heap.size+1,o,none⟩=some v→w3.cell? ⟨w.heap.size+1,o,none⟩=some v from fun o v h=>q3.keep h);have RF:=hide (show ∀o,w3.frozen? ⟨w.heap.size+1,o,none⟩=false from fun o=>((bcell q3).2 (w.heap.size+1) o (by simp)).trans (by simp [go_sem]));clear hor fz B2 q3;go_wp2_with fail;have X3s:Ext w (w3.setCell ⟨w.heap.size,3,none⟩ (.slice avr x.regs.length kvr)):=X3.setCell (Nat.le_refl _) _;refine(cloneC_any L _ _ (by rw[←hLl];exact(show SlOf (CvAt _) 8 (.slice ac L.length kc) L from by have:=unhide HLS;rw[←hLl] at this;exact this.mono fun _ _ _ k=>k.ext X3s)) (fun z hz=>slP_one (unhide HLP z hz)) (by omega)).mono ?_;rintro e w4 ⟨vc,rfl,hoc,q4⟩;obtain⟨avc,kvc,hvc⟩:∃a k,vc=.slice a x.cells.length k:=⟨_,_,by have:=(own_form hoc).1;rw[hLl] at this;exact this⟩;subst hvc;have hs3:(w3.setCell ⟨w.heap.size,3,none⟩ (.slice avr x.regs.length kvr)).heap.size=w3.heap.size:=by simp [World.setCell]
 have B4:=hide (((unhide B3).set3 (.slice avr x.regs.length kvr)).ext q4);have ST:=hide (Cpl.start (unhide HL) (unhide B4) hoc (by omega));have CB:=hide (own_form hoc).2;have CN:=hide (fun h=>own_nf hoc h);have hz4:w3.heap.size≤w4.heap.size:=by have:=q4.size;omega
 have d4:=(unhide B4).2.2.2.2.1;have g4:w4.frozen? ⟨w.heap.size,4,none⟩=false:=((bcell q4).2 w.heap.size 4 (by omega)).trans (by rw[World.frozen?_setCell];exact unhide FZ 4);have FZ4:=hide (show ∀o,w4.frozen? ⟨w.heap.size,o,none⟩=false from fun o=>((bcell q4).2 w.heap.size o (by omega)).trans (by rw[World.frozen?_setCell];exact unhide FZ o));have X4:=X3s.trans q4;have Q4:=hide q4;clear hoc q4 c3 c4 f3 X3s;go_wp2_with fail;obtain⟨W5,hW5⟩:∃W,W=w4.setCell ⟨w.heap.size,4,none⟩ (.slice avc x.cells.length kvc):=⟨_,rfl⟩;rw[←hW5] at ST ⊢;have s5:W5.heap.size=w4.heap.size:=by rw[hW5];simp [World.setCell]
 have X5:Ext w W5:=by rw[hW5];exact X4.setCell (Nat.le_refl _) _
 have HW5:=hide hW5;clear hW5 d4 g4;go_loopw [15] (fun i wr=>∃(k:Nat) (pv:Nat→Value),k≤x.cells.length∧i=.int .i64 k∧Hid (Cpl w W5 wr x (.slice avr x.regs.length kvr) (.slice avc x.cells.length kvc) (.slice ag ng kg) pv (fun q=>(L.getD q (Cl0,.slice none 0 0)).2) k)) (fun i _=>x.cells.length-(intOf i).toNat)
 case atStart=>exact⟨0,_,Nat.zero_le _,rfl,unhide ST⟩
 case round=>
  clear ST;obtain⟨k,pv,hk,rfl,hcp⟩:=hrel;by_cases hlt:k<x.cells.length
  ·obtain⟨bc,hbc⟩:∃bc,avc=some ⟨bc,0,none⟩:=⟨_,(unhide CB (by omega)).1⟩;subst hbc;have hbc0:w3.heap.size≤bc∧bc<w4.heap.size:=by have h1:=(unhide CN (by omega)).2;have h2:=(unhide CN (by omega)).1.1;rw[hs3] at h1;exact⟨h1,h2⟩
   have XR:Ext w wr:=(unhide hcp).on.ext X5 (fun q hq e=>by have e1:q=bc:=e.1;omega)
   have hm:L.getD k (Cl0,.slice none 0 0)∈L:=by
    have:L.getD k (Cl0,.slice none 0 0)=L[k]'(by omega):=by simp [hLl,hlt]
    rw[this];exact List.getElem_mem _
   have h1:(L.getD k (Cl0,.slice none 0 0)).1=x.c k:=by
    have e:x.cells[k]=(L.map (·.1))[k]'(by simpa [hLl] using hlt):=by simp [unhide HL]
    rw[←Hp.c_eq x k hlt,e];simp [hLl,hlt]
   have sp0:=unhide HLP _ hm;rw[h1] at sp0;obtain⟨apk,kpk,hvk⟩:∃a c,(L.getD k (Cl0,.slice none 0 0)).2=.slice a (x.c k).prs.length c:=let ⟨a,c,e,_⟩:=sp0;⟨a,c,e⟩;rw[hvk] at sp0;have SP:=hide sp0
   have p7:wr.cell? ⟨bc,k*8+7,none⟩=some (.slice apk (x.c k).prs.length kpk):=by
    have:=(unhide hcp).p7 k hlt;rw[if_neg (by omega),hvk] at this;exact this
   have c4:wr.cell? ⟨w.heap.size,4,none⟩=some (.slice (some ⟨bc,0,none⟩) x.cells.length kvc):=(unhide hcp).bx.2.2.2.2.1;have f7:wr.frozen? ⟨bc,k*8+7,none⟩=false:=((unhide hcp).nf (by omega)).2 _;have hl2:=n3 k hlt;have hbw:bc<wr.heap.size:=cell_lt p7;have hk0:(0:Int)≤(k:Int):=by omega
   have hk1:(k:Int)<(x.cells.length:Int):=by omega
   have hne:¬w.heap.size=bc:=by omega
   have hne2:¬bc=w.heap.size:=by omega
   clear sp0 hm h1;go_wp2_with fail;go_region_with (go_at_call 212;refine(cloneP_any (x.c k).prs _ _ (SlP.ext XR.drew (unhide SP)) (by omega)).mono ?_;rintro e w6 ⟨v',rfl,hop,q6⟩;obtain⟨a',k',hv'⟩:∃a c,v'=.slice a (x.c k).prs.length c:=⟨_,_,(own_form hop).1⟩;subst hv';have q6:=Ext.trans ((Ext.refl wr).drew) q6;have d4:=q6.keep c4;have d7:=q6.keep p7;have g7:=((bcell q6).2 bc (k*8+7) hbw).trans f7;have R:=hide ((unhide hcp).step hlt ⟨by show w.heap.size+2≤bc;omega,by show bc<_;omega⟩ q6 hop);clear hop q6)
   all_goals
    go_wp2_with fail;go_roundw
    case rel=>exact⟨k+1,_,by omega,by go_num,unhide R⟩
    case measure=>simp [intOf];omega
  ·have hk2:k=x.cells.length:=by omega
   subst hk2
   have XR:Ext w wr:=(unhide hcp).on.ext X5 (fun q hq e=>by
    have e1:q=vblk (.slice avc x.cells.length kvc):=e.1;have h1:=(unhide CN (by have:=e.2;omega)).2;rw[hs3] at h1;omega)
   have hvc3:0<x.cells.length→w3.heap.size≤vblk (.slice avc x.cells.length kvc)∧vblk (.slice avc x.cells.length kvc)<w4.heap.size:=fun h=>by
    have h1:=(unhide CN (by omega)).2;rw[hs3] at h1;exact⟨h1,(unhide CN (by omega)).1.1⟩
   have WB:∀b,b<w3.heap.size→b≠w.heap.size→wr.heap[b]?=w3.heap[b]?:=fun b hb hne=>by
    have e1:w4.heap[b]?=w3.heap[b]?:=((unhide Q4).block b (by rw[hs3];exact hb)).trans (Below.heap_setCell _ _ _ _ hne);have e2:W5.heap[b]?=w4.heap[b]?:=by rw[unhide HW5];exact Below.heap_setCell _ _ _ _ hne
    exact((unhide hcp).on.block b (by omega) (fun e=>by have e1:b=vblk (.slice avc x.cells.length kvc):=e.1;have:=(hvc3 e.2).1;omega)).trans (e2.trans e1)
   have RW:=hide (show Rws (w.heap.size+2) wr x _ _ _ _ _ from by
    have hb0:∀b,(Value.slice avr x.regs.length kvr).ownBlock=some b→w.heap.size+2≤b∧b<w3.heap.size:=fun b hb=>by have:=(unhide OR).lt b hb;simp at this;omega
    have hvb:vblk (.slice avr x.regs.length kvr)<w3.heap.size:=by
     unfold vblk;cases e:(Value.slice avr x.regs.length kvr).ownBlock with
     | none=>simp;omega
     | some b=>simp;exact(hb0 b e).2
    refine Rws.of (vr:=.slice avr x.regs.length kvr) (bc:=vblk (.slice avc x.cells.length kvc)) (pv:=pv) (ownsRow_of_block (own_less (unhide OR) (by simp)) (fun b hb=>WB b (hb0 b hb).2 (by have:=(hb0 b hb).1;omega))) (unhide hcp).s (fun q hq=>by have:=(unhide hcp).p7 q hq;rw[if_pos hq] at this;exact this) (fun h=>⟨(unhide hcp).nf h,by have:=(hvc3 h).1;omega⟩) (fun h=>by have:=(hvc3 h).1;omega) (fun q hq=>⟨own_less ((unhide hcp).pr q hq hq) (by omega),fun b hb=>?_⟩) (fun q q' hq hq' hne b hb=>(unhide hcp).dp q q' hq hq' hne b hb);have h1:=(((unhide hcp).pr q hq hq).lt b hb).1;have h2:=hvc3 (by omega);omega)
   have RG:=hide (own_form (unhide OR)).2;have CP:=hide (show CapP x (fun q=>vcap (pv q)) from fun q hq=>own_capV ((unhide hcp).pr q hq hq))
   have rcell:∀o v,((w.alloc (.cells #[iv x.room,iv x.used,iv x.born,.slice ar x.regs.length kr,.slice ac x.cells.length kc,iv x.phase,iv x.hand,iv x.sub,(.slice ag ng kg),iv x.per,iv x.start,iv x.rounds,iv x.forced] 34)).alloc (.cells #[iv 0,iv 0,iv 0,.slice none 0 0,.slice none 0 0,iv 0,iv 0,iv 0,.slice none 0 0,iv 0,iv 0,iv 0,iv 0] 34)).cell? ⟨w.heap.size+1,o,none⟩=some v→wr.cell? ⟨w.heap.size+1,o,none⟩=some v:=fun o v h=>
    (World.cell?_of_block (a:=⟨w.heap.size+1,o,none⟩) (WB (w.heap.size+1) (by omega) (by omega))).trans (unhide rc o v h)
   have rfz:∀o,wr.frozen? ⟨w.heap.size+1,o,none⟩=false:=fun o=>(World.frozen?_of_block (a:=⟨w.heap.size+1,o,none⟩) (WB (w.heap.size+1) (by omega) (by omega))).trans (unhide RF o)
   have r0:=rcell 0 (iv 0) (by simp [go_sem]);have r1:=rcell 1 (iv 0) (by simp [go_sem]);have r2:=rcell 2 (iv 0) (by simp [go_sem]);have r3:=rcell 3 (.slice none 0 0) (by simp [go_sem]);have r4:=rcell 4 (.slice none 0 0) (by simp [go_sem]);have r5:=rcell 5 (iv 0) (by simp [go_sem]);have r6:=rcell 6 (iv 0) (by simp [go_sem]);have r7:=rcell 7 (iv 0) (by simp [go_sem]);have r8:=rcell 8 (.slice none 0 0) (by simp [go_sem]);have r9:=rcell 9 (iv 0) (by simp [go_sem]);have r10:=rcell 10 (iv 0) (by simp [go_sem]);have r11:=rcell 11 (iv 0) (by simp [go_sem]);have r12:=rcell 12 (iv 0) (by simp [go_sem]);have f0:=rfz 0;have f1:=rfz 1;have f2:=rfz 2;have f3:=rfz 3;have f4:=rfz 4;have f5:=rfz 5;have f6:=rfz 6;have f7:=rfz 7;have f8:=rfz 8;have f9:=rfz 9;have f10:=rfz 10;have f11:=rfz 11;have f12:=rfz 12;obtain⟨b0,b1,b2,b3,b4,b5,b6,b7,b8,b9,b10,b11,b12⟩:=(unhide hcp).bx;have hb0:w.heap.size<wr.heap.size:=cell_lt b0;have hr0:w.heap.size+1<wr.heap.size:=cell_lt r0;clear hcp rcell rfz WB hvc3;go_wp2_with fail;refine bodyPost_ret (v:=x.v (.slice avr x.regs.length kvr) (.slice avc x.cells.length kvc) (.slice ag ng kg)) (by simp [results,Tryz.results139,go_sem,r0,r1,r2,r3,r4,r5,r6,r7,r8,r9,r10,r11,r12]) rfl ⟨_,_,rfl,?_⟩;refine(fun(F:Only (fun q=>q=w.heap.size+1) wr _)=>⟨⟨_,_,_,_,_,_,_,_,_,rfl,fun h=>(unhide RG h).1,rfl,fun h=>(unhide CB (by omega)).1,((unhide RW).only F (fun h e=>by have:=((unhide RW).nr h).2;omega) (fun h e=>by have:=((unhide RW).nc h).2;omega) (fun q hq hl e=>by have:=((unhide RW).pl q hq hl).2.2.2;omega)).less (by omega),unhide CP⟩,F.ext XR (fun q hq e=>by omega)⟩) ?_
   repeat (first | refine Only.setCell ?_ (by simp) _ | exact Only.refl _ _)
structure Rwn(B:Nat)(w:World)(x:Hp)(br:Nat)(cB cO:Nat→Nat)(pb:Nat→Nat)(pa:Nat→Option Addr)(pk:Nat→Nat):Prop where
 r:∀i (hi:i<x.regs.length),WdAt w br (i*3) x.regs[i]
 s:∀q,q<x.cells.length→S7 w (cB q) (cO q) (x.c q)
 p7:∀q,q<x.cells.length→w.cell? ⟨cB q,cO q+7,none⟩=some (.slice (pa q) (x.c q).prs.length (pk q))
 p:∀q,q<x.cells.length→∀k,k<(x.c q).prs.length→PrAt w (pb q) (k*6) ((x.c q).p k)
 pl:∀q,q<x.cells.length→0<pk q→pa q=some ⟨pb q,0,none⟩∧Nfp (pb q) (pk q) w∧(pb q≠br∧∀j,j<x.cells.length→pb q≠cB j)∧B≤pb q
 nr:0<x.regs.length→Nf1 br w∧B≤br
 nc:∀q,q<x.cells.length→Nf1 (cB q) w∧B≤cB q
 d:∀q,q<x.cells.length→br≠cB q
 dp:∀q q',q<x.cells.length→q'<x.cells.length→q≠q'→0<pk q→0<pk q'→pb q≠pb q'
 dc:∀q q',q<x.cells.length→q'<x.cells.length→q≠q'→cB q≠cB q'∨cO q+8≤cO q'∨cO q'+8≤cO q
 kp:CapP x pk
theorem Rwn.pw{B:Nat}{w:World}{x:Hp}{br:Nat}{cB cO:Nat→Nat}{pb:Nat→Nat}{pa:Nat→Option Addr}{pk:Nat→Nat}(h:Rwn B w x br cB cO pb pa pk){q:Nat}(hq:q<x.cells.length)(hl:0<(x.c q).prs.length):0<pk q:=Nat.lt_of_lt_of_le hl (h.kp q hq)
theorem Rwn.same{B:Nat}{w w':World}{x:Hp}{br:Nat}{cB cO pb:Nat→Nat}{pa:Nat→Option Addr}{pk:Nat→Nat}(h:Rwn B w x br cB cO pb pa pk)(hs:w.heap.size≤w'.heap.size)
  (hr:0<x.regs.length→w'.heap[br]?=w.heap[br]?) (hc:∀q,q<x.cells.length→w'.heap[cB q]?=w.heap[cB q]?) (hp:∀q,q<x.cells.length→0<pk q→w'.heap[pb q]?=w.heap[pb q]?):Rwn B w' x br cB cO pb pa pk where
 r:=fun i hi=>(h.r i hi).of fun j _=>World.cell?_of_block (a:=⟨br,_,none⟩) (hr (by omega))
 s:=fun q hq=>(h.s q hq).of fun j _=>World.cell?_of_block (a:=⟨cB q,_,none⟩) (hc q hq)
 p7:=fun q hq=>(World.cell?_of_block (a:=⟨cB q,_,none⟩) (hc q hq)).trans (h.p7 q hq)
 p:=fun q hq k hk=>(h.p q hq k hk).of fun j _=>World.cell?_of_block (a:=⟨pb q,_,none⟩) (hp q hq (h.pw hq (by omega)))
 pl:=fun q hq hl=>let ⟨a,b,c⟩:=h.pl q hq hl;⟨a,nfp_block b (hp q hq hl) hs,c⟩
 nr:=fun hl=>⟨nf1_block (h.nr hl).1 (hr hl) hs,(h.nr hl).2⟩
 nc:=fun q hq=>⟨nf1_block (h.nc q hq).1 (hc q hq) hs,(h.nc q hq).2⟩
 d:=h.d
 dp:=h.dp
 dc:=h.dc
 kp:=h.kp
theorem Rwn.ext{B:Nat}{w w':World}{x:Hp}{br:Nat}{cB cO pb:Nat→Nat}{pa:Nat→Option Addr}{pk:Nat→Nat}(h:Rwn B w x br cB cO pb pa pk)(e:Ext w w'):Rwn B w' x br cB cO pb pa pk:=
 h.same e.size (fun hl=>e.block _ (h.nr hl).1.1) (fun q hq=>e.block _ (h.nc q hq).1.1) (fun q hq hl=>e.block _ (h.pl q hq hl).2.1.1)
theorem Rwn.only{S:Nat→Prop}{B:Nat}{w w':World}{x:Hp}{br:Nat}{cB cO pb:Nat→Nat}{pa:Nat→Option Addr}{pk:Nat→Nat}(h:Rwn B w x br cB cO pb pa pk)(e:Only S w w')(hr:0<x.regs.length→¬S br)(hc:∀q,q<x.cells.length→¬S (cB q))(hp:∀q,q<x.cells.length→0<pk q→¬S (pb q)):Rwn B w' x br cB cO pb pa pk:=
 h.same e.size (fun hl=>e.block _ (h.nr hl).1.1 (hr hl)) (fun q hq=>e.block _ (h.nc q hq).1.1 (hc q hq)) (fun q hq hl=>e.block _ (h.pl q hq hl).2.1.1 (hp q hq hl))
theorem Rwn.slW{B:Nat}{w:World}{x:Hp}{br:Nat}{cB cO pb:Nat→Nat}{pa:Nat→Option Addr}{pk:Nat→Nat}(h:Rwn B w x br cB cO pb pa pk){ad:Option Addr}(kr:Nat)(ha:0<x.regs.length→ad=some ⟨br,0,none⟩)(hl:x.regs.length≤1048576):SlW w (.slice ad x.regs.length kr) x.regs:=
 ⟨_,_,rfl,by omega,fun i hi=>⟨br,0,ha (by omega),by rw[Nat.zero_add];exact h.r i hi⟩⟩
theorem Rwn.far8{B:Nat}{w:World}{x:Hp}{br:Nat}{cB cO pb:Nat→Nat}{pa:Nat→Option Addr}{pk:Nat→Nat}(h:Rwn B w x br cB cO pb pa pk){i q:Nat}(hi:i<x.cells.length)(hq:q<x.cells.length)(e:q≠i){w1 w2:World}(hs:w.heap.size≤w1.heap.size)(o:Only (fun d=>d=cB i) w1 w2)(ho:∀k,(k<cO i∨cO i+8≤k)→w2.cell? ⟨cB i,k,none⟩=w1.cell? ⟨cB i,k,none⟩)(k:Nat)(hk:k<8):w2.cell? ⟨cB q,cO q+k,none⟩=w1.cell? ⟨cB q,cO q+k,none⟩:=by
 by_cases e2:cB q=cB i
 ·rw[e2];rcases h.dc q i hq hi e with d | d | d
  ·exact(d e2).elim
  ·exact ho _ (by omega)
  ·exact ho _ (by omega)
 ·exact World.cell?_of_block (a:=⟨cB q,_,none⟩) (o.block (cB q) (Nat.lt_of_lt_of_le (h.nc q hq).1.1 hs) e2)
theorem nf1_cell{i q:Nat}{cB:Nat→Nat}{w1 w2:World}(h:Nf1 (cB q) w1)(n:Nf1 (cB i) w2)(o:Only (fun d=>d=cB i) w1 w2):Nf1 (cB q) w2:=by
 by_cases e2:cB q=cB i
 ·rw[e2];exact n
 ·exact nf1_block h (o.block (cB q) h.1 e2) o.size
theorem Rws.rwn{B:Nat}{w:World}{x:Hp}{br bc:Nat}{pb:Nat→Nat}{pa:Nat→Option Addr}{pk:Nat→Nat}(h:Rws B w x br bc pb pa pk):Rwn B w x br (fun _=>bc) (fun q=>q*8) pb pa pk where
 r:=h.r
 s:=h.s
 p7:=h.p7
 p:=h.p
 pl:=fun q hq hl=>let ⟨a,b,c,d⟩:=h.pl q hq hl;⟨a,b,⟨c.1,fun _ _=>c.2⟩,d⟩
 nr:=h.nr
 nc:=fun q hq=>h.nc (by omega)
 d:=fun q hq=>h.d (by omega)
 dp:=h.dp
 dc:=fun q q' _ _ e=>.inr (by omega)
 kp:=h.kp
abbrev ndp(bn i:Nat):Value:=.pointer (some ⟨bn,i*2,none⟩)
structure SSep(x:Hp)(role:Nat→Nat)(b br:Nat)(cB:Nat→Nat)(bn:Nat)(pb pk:Nat→Nat)(vf vk:Value):Prop where
 b:role b=0
 n:role bn=1
 r:0<x.regs.length→role br=2
 c:∀q,q<x.cells.length→role (cB q)=3
 f:∀q,vf.ownBlock=some q→role q=4
 k:∀q,vk.ownBlock=some q→role q=5
 p:∀q,q<x.cells.length→0<pk q→role (pb q)=6+q
structure RAt(w:World)(b bn hd:Nat)(G:List Int):Prop where
 h0:hd<4000
 hl:G.length≤4000
 r0:w.cell? ⟨b,4015,none⟩=some (iv hd)
 r1:w.cell? ⟨b,4016,none⟩=some (iv G.length)
 rg:∀i (hi:i<G.length),w.cell? ⟨b,15+(hd+i) % 4000,none⟩=some (ndp bn G[i].toNat)
 ro:∀j,j<4000→∃v,w.cell? ⟨b,15+j,none⟩=some v
def NdB(w:World)(bn kn:Nat):Prop:=bn<w.heap.size∧∀j,j<kn*2→Open w bn j
theorem NdB.of{w w':World}{bn kn:Nat}(h:NdB w bn kn)(e:w'.heap[bn]?=w.heap[bn]?)(hs:w.heap.size≤w'.heap.size):NdB w' bn kn:=
 ⟨Nat.lt_of_lt_of_le h.1 hs,fun j hj=>by
  obtain⟨⟨v,hv⟩,hf⟩:=h.2 j hj;exact⟨⟨v,(World.cell?_of_block (a:=⟨bn,j,none⟩) e).trans hv⟩,(World.frozen?_of_block (a:=⟨bn,j,none⟩) e).trans hf⟩⟩
structure SB(B:Nat)(w:World)(b:Nat)(x:Hp)(ar:Option Addr)(kr:Nat)(v4 v8:Value)(br:Nat)(cB cO:Nat→Nat)(bn:Nat)(kn hd:Nat)(vf:Value)(F:List Int)(vk:Value)(K:List Nat):Prop where
 bx:HBox w b x (.slice ar x.regs.length kr) v4 v8
 ha:0<x.regs.length→ar=some ⟨br,0,none⟩
 n13:w.cell? ⟨b,13,none⟩=some (.slice (some ⟨bn,0,none⟩) x.cells.length kn)
 nd:∀i,i<x.cells.length→w.cell? ⟨bn,i*2,none⟩=some (iv i)∧w.cell? ⟨bn,i*2+1,none⟩=some (.pointer (some ⟨cB i,cO i,none⟩))
 fr:LsAt w B b 14 vf F
 rg:RAt w b bn hd x.gray
 k0:w.cell? ⟨b,4017,none⟩=some vk
 kp:w.ownsRow B 126 1 vk K.length (K.map (ndp bn))
 nb:Nf1 b w
 lo:B≤b∧B≤bn∧NdB w bn kn
structure SAt[Inhabited ProtD](B:Nat)(w:World)(b:Nat)(x:Hp)(ar:Option Addr)(kr:Nat)(v4 v8:Value)(br:Nat)(cB cO:Nat→Nat)(bn:Nat)(pb:Nat→Nat)(pa:Nat→Option Addr)(pk:Nat→Nat)(kn hd:Nat)(vf:Value)(F:List Int)(vk:Value)(K:List Nat)(role:Nat→Nat):Prop where
 sb:SB B w b x ar kr v4 v8 br cB cO bn kn hd vf F vk K
 rw:Rwn B w x br cB cO pb pa pk
 sp:SSep x role b br cB bn pb pk vf vk
 pr:Prt w role
theorem ring_idx(a:Nat):((a:Int).tmod 4000)=((a % 4000:Nat):Int):=by
 rw[Int.tmod_eq_emod_of_nonneg (by omega)];omega
theorem RAt.of{w w':World}{b bn hd:Nat}{G:List Int}(h:RAt w b bn hd G)(e:∀o,15≤o→o<4017→w'.cell? ⟨b,o,none⟩=w.cell? ⟨b,o,none⟩):RAt w' b bn hd G:=
 ⟨h.h0,h.hl,(e 4015 (by omega) (by omega)).trans h.r0,(e 4016 (by omega) (by omega)).trans h.r1,fun i hi=>(e _ (by omega) (by have:(hd+i) % 4000<4000:=Nat.mod_lt _ (by omega);omega)).trans (h.rg i hi),fun j hj=>let ⟨v,q⟩:=h.ro j hj;⟨v,(e _ (by omega) (by omega)).trans q⟩⟩
theorem RAt.block{w w':World}{b bn hd:Nat}{G:List Int}(h:RAt w b bn hd G)(e:w'.heap[b]?=w.heap[b]?):RAt w' b bn hd G:=h.of fun o _ _=>World.cell?_of_block (a:=⟨b,o,none⟩) e
theorem RAt.put{w:World}{b bn hd i m:Nat}{G:List Int}(h:RAt w b bn hd G)(hl:G.length<4000)(hm:m=(hd+G.length) % 4000):
  RAt ((w.setCell ⟨b,15+m,none⟩ (ndp bn i)).setCell ⟨b,4016,none⟩ (iv (G.length+1))) b bn hd (G++[(i:Int)]):=by
 have hm4:m<4000:=by rw[hm];exact Nat.mod_lt _ (by omega)
 refine⟨h.h0,by simp;omega,?_,?_,fun k hk=>?_,fun j hj=>?_⟩
 ·rw[cell_other _ (.inr (by omega)),cell_other _ (.inr (by omega))];exact h.r0
 ·have:(w.setCell ⟨b,15+m,none⟩ (ndp bn i)).cell? ⟨b,4016,none⟩=some (iv G.length):=by rw[cell_other _ (.inr (by omega))];exact h.r1
  rw[World.cell?_setCell_same _ _ _ this];simp
 ·have hk2:(hd+k) % 4000<4000:=Nat.mod_lt _ (by omega);rw[cell_other _ (.inr (by omega))];by_cases e:k=G.length
  ·subst e;obtain⟨v,hv⟩:=h.ro m hm4;rw[←hm,World.cell?_setCell_same _ _ _ hv];simp
  ·have hk3:k<G.length:=by simp at hk;omega
   rw[cell_other _ (.inr (by have:=h.h0;omega)),h.rg k hk3];simp [hk3]
 ·rw[cell_other _ (.inr (by omega))];obtain⟨v,hv⟩:=h.ro j hj;exact cell?_setCell_some hv
theorem drew_cell(w:World)(p:Addr):w.drew.cell? p=w.cell? p:=World.cell?_of_block (a:=p) rfl
theorem SB.same{B:Nat}{w:World}{b:Nat}{x:Hp}{ar:Option Addr}{kr:Nat}{v4 v8:Value}{br bn:Nat}{cB cO:Nat→Nat}{kn hd:Nat}{vf:Value}{F:List Int}{vk:Value}{K:List Nat}{w':World}(h:SB B w b x ar kr v4 v8 br cB cO bn kn hd vf F vk K)(hs:w.heap.size≤w'.heap.size)(hb:w'.heap[b]?=w.heap[b]?)(hn:w'.heap[bn]?=w.heap[bn]?)(hf:∀q,vf.ownBlock=some q→w'.heap[q]?=w.heap[q]?)(hk:∀q,vk.ownBlock=some q→w'.heap[q]?=w.heap[q]?):SB B w' b x ar kr v4 v8 br cB cO bn kn hd vf F vk K where
 bx:=h.bx.block hb
 ha:=h.ha
 n13:=(World.cell?_of_block (a:=⟨b,13,none⟩) hb).trans h.n13
 nd:=fun i hi=>⟨(World.cell?_of_block (a:=⟨bn,_,none⟩) hn).trans (h.nd i hi).1,(World.cell?_of_block (a:=⟨bn,_,none⟩) hn).trans (h.nd i hi).2⟩
 fr:=⟨(World.cell?_of_block (a:=⟨b,14,none⟩) hb).trans h.fr.hd,(World.frozen?_of_block (a:=⟨b,14,none⟩) hb).trans h.fr.hf,ownsRow_of_block h.fr.own hf,h.fr.apart⟩
 rg:=h.rg.block hb
 k0:=(World.cell?_of_block (a:=⟨b,4017,none⟩) hb).trans h.k0
 kp:=ownsRow_of_block h.kp hk
 nb:=nf1_block h.nb hb hs
 lo:=⟨h.lo.1,h.lo.2.1,h.lo.2.2.of hn hs⟩
theorem SAt.ext[Inhabited ProtD]{B:Nat}{w:World}{b:Nat}{x:Hp}{ar:Option Addr}{kr:Nat}{v4 v8:Value}{br bn:Nat}{cB cO:Nat→Nat}{pb:Nat→Nat}{pa:Nat→Option Addr}{pk:Nat→Nat}{kn hd:Nat}{vf:Value}{F:List Int}{vk:Value}{K:List Nat}{role:Nat→Nat}{w':World}(h:SAt B w b x ar kr v4 v8 br cB cO bn pb pa pk kn hd vf F vk K role)(e:Ext w w'):SAt B w' b x ar kr v4 v8 br cB cO bn pb pa pk kn hd vf F vk K role:=
 ⟨h.sb.same e.size (e.block b h.sb.nb.1) (e.block bn h.sb.lo.2.2.1) (fun q hq=>e.block q (h.sb.fr.own.lt q hq).2) (fun q hq=>e.block q (h.sb.kp.lt q hq).2),h.rw.ext e,h.sp,h.pr.of (fun q hq _=>e.block q hq) (fun _ _ h=>h)⟩
theorem SAt.push[Inhabited ProtD]{B:Nat}{b:Nat}{x:Hp}{ar:Option Addr}{kr:Nat}{v4 v8:Value}{br bn:Nat}{cB cO:Nat→Nat}{pb:Nat→Nat}{pa:Nat→Option Addr}{pk:Nat→Nat}{kn hd:Nat}{vf:Value}{F:List Int}{vk:Value}{K:List Nat}{role:Nat→Nat}{W w5:World}{i g cap:Nat}(h:SAt B W b x ar kr v4 v8 br cB cO bn pb pa pk kn hd vf F vk K role)(hg:W.grownBy w5 vk.ownBlock)(h5:w5.ownsRow B 126 1 (.slice (some ⟨g,0,none⟩) (K.length+1) cap) (K.length+1) (K.map (ndp bn)++[ndp bn i]))(hat:vk.ownBlock=some g∨g=W.heap.size):
  SAt B (w5.setCell ⟨b,4017,none⟩ (.slice (some ⟨g,0,none⟩) (K.length+1) cap)) b x ar kr v4 v8 br cB cO bn pb pa pk kn hd vf F (.slice (some ⟨g,0,none⟩) (K.length+1) cap) (K++[i]) (fun q=>if q=g then 5 else role q):=by
 have hgb:∀q,q<W.heap.size→role q≠5→q≠g:=fun q hq hr e=>by
  rcases hat with a | a
  ·exact hr (by rw[e];exact h.sp.k g a)
  ·omega
 have far:∀q,q<W.heap.size→role q≠5→w5.heap[q]?=W.heap[q]?:=fun q hq hr=>hg.block q hq (fun e=>hr (h.sp.k q e.symm))
 have hb:=h.sb.nb.1;have rb:role b≠5:=by rw[h.sp.b];omega
 have fb:=far b hb rb;have nbg:=hgb b hb rb;have far2:∀q,q<W.heap.size→role q≠5→q≠b→(w5.setCell ⟨b,4017,none⟩ (.slice (some ⟨g,0,none⟩) (K.length+1) cap)).heap[q]?=W.heap[q]?:=fun q hq hr hne=>(Below.heap_setCell _ _ _ _ hne).trans (far q hq hr)
 have cb:∀o,o≠4017→(w5.setCell ⟨b,4017,none⟩ (.slice (some ⟨g,0,none⟩) (K.length+1) cap)).cell? ⟨b,o,none⟩=W.cell? ⟨b,o,none⟩:=fun o ho=>(cell_other _ (.inr (fun e=>ho e.symm))).trans (World.cell?_of_block (a:=⟨b,o,none⟩) fb)
 have hsz:W.heap.size≤(w5.setCell ⟨b,4017,none⟩ (.slice (some ⟨g,0,none⟩) (K.length+1) cap)).heap.size:=by have:=hg.size;simpa [World.setCell] using this
 have rn:role bn≠5:=by rw[h.sp.n];omega
 have nnb:bn≠b:=fun e=>by have h1:=h.sp.n;have h2:=h.sp.b;rw[e] at h1;omega
 have fn:=far2 bn h.sb.lo.2.2.1 rn nnb;have ff:∀q,vf.ownBlock=some q→(w5.setCell ⟨b,4017,none⟩ (.slice (some ⟨g,0,none⟩) (K.length+1) cap)).heap[q]?=W.heap[q]?:=fun q hq=>far2 q (h.sb.fr.own.lt q hq).2 (by rw[h.sp.f q hq];omega) (fun e=>by have h1:=h.sp.f q hq;have h2:=h.sp.b;rw[e] at h1;omega)
 refine⟨⟨h.sb.bx.of fun o ho=>cb o (by omega),h.sb.ha,(cb 13 (by omega)).trans h.sb.n13,fun k hk=>⟨(World.cell?_of_block (a:=⟨bn,_,none⟩) fn).trans (h.sb.nd k hk).1,(World.cell?_of_block (a:=⟨bn,_,none⟩) fn).trans (h.sb.nd k hk).2⟩,⟨(cb 14 (by omega)).trans h.sb.fr.hd,?_,ownsRow_of_block h.sb.fr.own ff,h.sb.fr.apart⟩,h.sb.rg.of fun o _ h2=>cb o (by omega),?_,?_,?_,⟨h.sb.lo.1,h.sb.lo.2.1,h.sb.lo.2.2.of fn hsz⟩⟩,?_,?_,h.pr.of (fun q hq h1=>far2 q hq (by rw[h1];omega) (fun e=>by have h2:=h.sp.b;rw[e] at h1;omega)) (fun q hq h1=>by(try dsimp only);rw[if_neg (hgb q hq (by rw[h1];omega))];exact h1)⟩
 ·rw[World.frozen?_setCell];exact(World.frozen?_of_block (a:=⟨b,14,none⟩) fb).trans h.sb.fr.hf
 ·exact World.cell?_setCell_same _ _ _ ((World.cell?_of_block (a:=⟨b,4017,none⟩) fb).trans h.sb.k0)
 ·have:=ownsRow_of_block (w':=w5.setCell ⟨b,4017,none⟩ (.slice (some ⟨g,0,none⟩) (K.length+1) cap)) h5 (fun q hq=>Below.heap_setCell _ _ _ _ (fun e=>nbg (by simp [Value.ownBlock] at hq;rw[hq];exact e.symm)))
  simpa using this
 ·refine⟨Nat.lt_of_lt_of_le hb hsz,fun j=>?_⟩;rw[World.frozen?_setCell];exact(World.frozen?_of_block (a:=⟨b,j,none⟩) fb).trans (h.sb.nb.2 j)
 ·exact h.rw.same hsz (fun hl=>far2 br (h.rw.nr hl).1.1 (by rw[h.sp.r hl];omega) (fun e=>by have h1:=h.sp.r hl;have h2:=h.sp.b;rw[e] at h1;omega)) (fun q hq=>far2 (cB q) (h.rw.nc q hq).1.1 (by rw[h.sp.c q hq];omega) (fun e=>by have h1:=h.sp.c q hq;have h2:=h.sp.b;rw[e] at h1;omega)) (fun q hq hl=>far2 (pb q) (h.rw.pl q hq hl).2.1.1 (by rw[h.sp.p q hq hl];omega) (fun e=>by have h1:=h.sp.p q hq hl;have h2:=h.sp.b;rw[e] at h1;omega))
 ·refine⟨?_,?_,fun hl=>?_,fun q hq=>?_,fun q hq=>?_,fun q hq=>?_,fun q hq hl=>?_⟩
  ·rw[if_neg nbg];exact h.sp.b
  ·rw[if_neg (hgb bn h.sb.lo.2.2.1 rn)];exact h.sp.n
  ·rw[if_neg (hgb br (h.rw.nr hl).1.1 (by rw[h.sp.r hl];omega))];exact h.sp.r hl
  ·rw[if_neg (hgb (cB q) (h.rw.nc q hq).1.1 (by rw[h.sp.c q hq];omega))];exact h.sp.c q hq
  ·rw[if_neg (hgb q (h.sb.fr.own.lt q hq).2 (by rw[h.sp.f q hq];omega))];exact h.sp.f q hq
  ·simp [Value.ownBlock] at hq;rw[if_pos hq.symm]
  ·rw[if_neg (hgb (pb q) (h.rw.pl q hq hl).2.1.1 (by rw[h.sp.p q hq hl];omega))];exact h.sp.p q hq hl
def sweptB(x:Hp)(i:Nat):Bool:=x.phase == 4 || (x.phase == 3 && decide ((i:Int)<x.hand))
theorem swept_any(x:Hp)(b bn i:Nat)(w:World)(c5:w.cell? ⟨b,5,none⟩=some (iv x.phase))(c6:w.cell? ⟨b,6,none⟩=some (iv x.hand))(m0:w.cell? ⟨bn,i*2,none⟩=some (iv i)):
  Calls Tryz.prog 142 #[.pointer (some ⟨b,0,none⟩),ndp bn i] w fun e w'=>e=.returned (.bool (sweptB x i))∧Ext w w':=by
 cases q4:(x.phase == 4)
 ·cases q3:(x.phase == 3)
  ·have E:=hide (show sweptB x i=false by simp [sweptB,q4,q3]);go_enter Tryz.func142,Tryz.ntmps142;go_wp2_with fail;go_quiet (fail);go_wp2_with fail;go_ret;exact⟨by rw[unhide E];rfl,Ext.drewN (Ext.refl _) _⟩
  ·have E:=hide (show sweptB x i=decide ((i:Int)<x.hand) by simp [sweptB,q4,q3]);go_enter Tryz.func142,Tryz.ntmps142;go_wp2_with fail;go_quiet (fail);go_wp2_with fail;go_ret;exact⟨by rw[unhide E];rfl,Ext.drewN (Ext.refl _) _⟩
 ·have E:=hide (show sweptB x i=true by simp [sweptB,q4]);go_enter Tryz.func142,Tryz.ntmps142;go_wp2_with fail;go_quiet (fail);go_wp2_with fail;go_ret;exact⟨by rw[unhide E];rfl,Ext.drewN (Ext.refl _) _⟩
theorem rput_any(b bn hd i:Nat)(G:List Int)(w:World)(h:RAt w b bn hd G)(hn:Nf1 b w)(hl:G.length<4000):
  Calls Tryz.prog 141 #[.pointer (some ⟨b,15,none⟩),ndp bn i] w fun e w'=>e=.returned (.tuple #[])∧RAt w' b bn hd (G++[(i:Int)])∧Only (fun q=>q=b) w w'∧Nf1 b w'∧∀o,(o<15∨o=4015∨o=4017)→w'.cell? ⟨b,o,none⟩=w.cell? ⟨b,o,none⟩:=by
 have r0:=h.r0;have r1:=h.r1;have h0:=h.h0;obtain⟨u,ru⟩:=h.ro ((hd+G.length) % 4000) (Nat.mod_lt _ (by omega));have f0:=hn.2 (15+(hd+G.length) % 4000);have f1:=hn.2 4016;obtain⟨m,hm⟩:∃m,m=(hd+G.length) % 4000:=⟨_,rfl⟩;rw[←hm] at ru f0;have hm4:m<4000:=by rw[hm];exact Nat.mod_lt _ (by omega)
 have hr:((hd:Int)+(G.length:Int)).tmod 4000=(m:Int):=by have:=ring_idx (hd+G.length);rw[←hm] at this;simpa using this
 have m0:(0:Int)≤(m:Int):=by omega
 have m1:(m:Int)<4000:=by omega
 have HM:=hide hm;have H:=hide h;clear h hm;go_enter Tryz.func141,Tryz.ntmps141;go_wp2_with fail
 go_region
 all_goals
  go_wp2_with fail
  go_end0
  refine⟨rfl,((unhide H).put hl (unhide HM)).block rfl,(Only.setCell (S:=fun q=>q=b) (Only.setCell (S:=fun q=>q=b) (Only.refl _ w) (p:=⟨b,15+m,none⟩) rfl _) (p:=⟨b,4016,none⟩) rfl _).drew,⟨by have:=hn.1;simpa [World.setCell] using this,fun j=>by rw[show ∀(W:World) (p:Addr),W.drew.frozen? p=W.frozen? p from fun W p=>World.frozen?_of_block (a:=p) rfl,World.frozen?_setCell,World.frozen?_setCell];exact hn.2 j⟩,fun o ho=>?_⟩;rw[drew_cell,cell_other _ (.inr (by omega)),cell_other _ (.inr (by omega))]
theorem SAt.boxed[Inhabited ProtD]{B:Nat}{w w':World}{b:Nat}{x x':Hp}{ar:Option Addr}{kr:Nat}{v4 v8:Value}{br bn:Nat}{cB cO:Nat→Nat}{pb:Nat→Nat}{pa:Nat→Option Addr}{pk:Nat→Nat}{kn hd:Nat}{vf:Value}{F:List Int}{vk:Value}{K:List Nat}{role:Nat→Nat}(h:SAt B w b x ar kr v4 v8 br cB cO bn pb pa pk kn hd vf F vk K role)(o:Only (fun q=>q=b) w w')(nf:Nf1 b w')(hr:x'.regs=x.regs)(hc:x'.cells=x.cells)(hg:x'.gray=x.gray)(bx:HBox w' b x' (.slice ar x.regs.length kr) v4 v8)(c:∀k,13≤k→w'.cell? ⟨b,k,none⟩=w.cell? ⟨b,k,none⟩):
  SAt B w' b x' ar kr v4 v8 br cB cO bn pb pa pk kn hd vf F vk K role:=by
 have far:∀q,q<w.heap.size→role q≠0→w'.heap[q]?=w.heap[q]?:=fun q hq hn=>o.block q hq (fun e=>hn (by rw[e];exact h.sp.b))
 have fn:=far bn h.sb.lo.2.2.1 (by rw[h.sp.n];omega);have cc:∀q,x'.c q=x.c q:=fun q=>by simp only [Hp.c,hc]
 have rw2:=h.rw.same o.size (fun hl=>far br (h.rw.nr hl).1.1 (by rw[h.sp.r hl];omega)) (fun q hq=>far (cB q) (h.rw.nc q hq).1.1 (by rw[h.sp.c q hq];omega)) (fun q hq hl=>far (pb q) (h.rw.pl q hq hl).2.1.1 (by rw[h.sp.p q hq hl];omega));refine⟨⟨by rw[hr];exact bx,by rw[hr];exact h.sb.ha,by rw[hc];exact(c 13 (by omega)).trans h.sb.n13,fun k hk=>?_,⟨(c 14 (by omega)).trans h.sb.fr.hd,nf.2 14,ownsRow_of_block h.sb.fr.own (fun q hq=>far q (h.sb.fr.own.lt q hq).2 (by rw[h.sp.f q hq];omega)),h.sb.fr.apart⟩,?_,(c 4017 (by omega)).trans h.sb.k0,ownsRow_of_block h.sb.kp (fun q hq=>far q (h.sb.kp.lt q hq).2 (by rw[h.sp.k q hq];omega)),nf,⟨h.sb.lo.1,h.sb.lo.2.1,h.sb.lo.2.2.of fn o.size⟩⟩,?_,?_,h.pr.of (fun q hq h1=>far q hq (by rw[h1];omega)) (fun _ _ h=>h)⟩
 ·rw[hc] at hk;exact⟨(World.cell?_of_block (a:=⟨bn,_,none⟩) fn).trans (h.sb.nd k hk).1,(World.cell?_of_block (a:=⟨bn,_,none⟩) fn).trans (h.sb.nd k hk).2⟩
 ·rw[hg];exact h.sb.rg.of fun o h1 _=>c o (by omega)
 ·refine⟨fun i hi=>?_,fun q hq=>?_,fun q hq=>?_,fun q hq k hk=>?_,fun q hq hl=>?_,?_,?_,?_,fun q q' hq hq' hne h1 h2=>?_,fun q q' hq hq' hne=>?_,fun q hq=>?_⟩
  ·have hi2:i<x.regs.length:=by rw[←hr];exact hi
   have e2:x'.regs[i]=x.regs[i]:=by simp [hr]
   rw[e2];exact rw2.r i hi2
  ·rw[hc] at hq;rw[cc];exact rw2.s q hq
  ·rw[hc] at hq;rw[cc];exact rw2.p7 q hq
  ·rw[hc] at hq;rw[cc] at hk ⊢;exact rw2.p q hq k hk
  ·rw[hc] at hq ⊢;exact rw2.pl q hq hl
  ·rw[hr];exact rw2.nr
  ·rw[hc];exact rw2.nc
  ·rw[hc];exact rw2.d
  ·rw[hc] at hq hq';exact rw2.dp q q' hq hq' hne h1 h2
  ·rw[hc] at hq hq';exact rw2.dc q q' hq hq' hne
  ·rw[hc] at hq;rw[cc];exact rw2.kp q hq
 ·refine⟨h.sp.b,h.sp.n,by rw[hr];exact h.sp.r,by rw[hc];exact h.sp.c,h.sp.f,h.sp.k,fun q hq hl=>?_⟩;rw[hc] at hq;exact h.sp.p q hq hl
def remU(x:Hp):Nat:=if x.phase=1∨x.phase=2 then 16000 else if x.phase=3 then 8000+(x.cells.length-x.hand.toNat) else if x.phase=4∨x.phase=5 then 8000 else if x.phase=6 then x.hand.toNat else 0
def KOk(x:Hp)(h:Nat)(K:List Nat):Prop:=K.Pairwise (· < ·)∧(∀i,i∈K→i<h∧(x.c i).st=1)∧∀i,i<h→(x.c i).st=1→i ∉ K→∀j,j<x.cells.length→(x.c j).st=0→i<j
structure SInv(C:Nat)(x:Hp)(F:List Int)(K:List Nat):Prop where
 ho:Ho F
 al:∀i,i<x.cells.length→(x.c i).st=0→(i:Int)∈F
 nn:∀v,v∈F→0≤v
 le:F.length+remU x≤C
 k3:x.phase=3→KOk x x.hand.toNat K
 k4:x.phase=4→K.Pairwise (· < ·)∧(∀i,i∈K→i<x.cells.length∧(x.c i).st=1)∧∀i,i<x.cells.length→(x.c i).st=1→i ∉ K→∀j,j<x.cells.length→(x.c j).st=0→i<j
 k0:x.phase≠3→x.phase≠4→K=[]
def SOk[Inhabited ProtD](C B:Nat)(w:World)(b:Nat)(x:Hp):Prop:=∃ar kr v4 v8 br cB cO bn pb pa pk kn hd vf F vk K role,SAt B w b x ar kr v4 v8 br cB cO bn pb pa pk kn hd vf F vk K role∧SInv C x F K
theorem SOk.ext[Inhabited ProtD]{C B:Nat}{w w':World}{b:Nat}{x:Hp}(h:SOk C B w b x)(e:Ext w w'):SOk C B w' b x:=by
 obtain⟨ar,kr,v4,v8,br,cB,cO,bn,pb,pa,pk,kn,hd,vf,F,vk,K,role,h,i⟩:=h;exact⟨ar,kr,v4,v8,br,cB,cO,bn,pb,pa,pk,kn,hd,vf,F,vk,K,role,h.ext e,i⟩
theorem SAt.usedTo[Inhabited ProtD]{B:Nat}{w:World}{b:Nat}{x:Hp}{ar:Option Addr}{kr:Nat}{v4 v8:Value}{br bn:Nat}{cB cO:Nat→Nat}{pb:Nat→Nat}{pa:Nat→Option Addr}{pk:Nat→Nat}{kn hd:Nat}{vf:Value}{F:List Int}{vk:Value}{K:List Nat}{role:Nat→Nat}(h:SAt B w b x ar kr v4 v8 br cB cO bn pb pa pk kn hd vf F vk K role)(u:Int):
  SAt B (w.setCell ⟨b,1,none⟩ (iv u)) b { x with used:=u } ar kr v4 v8 br cB cO bn pb pa pk kn hd vf F vk K role:=by
 refine h.boxed (x':={ x with used:=u }) (Only.setCell (S:=fun q=>q=b) (Only.refl _ w) (p:=⟨b,1,none⟩) rfl _) (h.sb.nb.set _ _) rfl rfl rfl (h.sb.bx.set1 u) (fun k hk=>cell_other _ (.inr (by omega)))
theorem SAt.subs[Inhabited ProtD]{B:Nat}{w:World}{b:Nat}{x:Hp}{ar:Option Addr}{kr:Nat}{v4 v8:Value}{br bn:Nat}{cB cO:Nat→Nat}{pb:Nat→Nat}{pa:Nat→Option Addr}{pk:Nat→Nat}{kn hd:Nat}{vf:Value}{F:List Int}{vk:Value}{K:List Nat}{role:Nat→Nat}(h:SAt B w b x ar kr v4 v8 br cB cO bn pb pa pk kn hd vf F vk K role)(v:Int):
  SAt B (w.setCell ⟨b,7,none⟩ (iv v)) b { x with sub:=v } ar kr v4 v8 br cB cO bn pb pa pk kn hd vf F vk K role:=by
 refine h.boxed (x':={ x with sub:=v }) (Only.setCell (S:=fun q=>q=b) (Only.refl _ w) (p:=⟨b,7,none⟩) rfl _) (h.sb.nb.set _ _) rfl rfl rfl (h.sb.bx.set7 v) (fun k hk=>cell_other _ (.inr (by omega)))
def nodeL(cB cO:Nat→Nat)(n:Nat):List Value:=(List.range (n*2)).map (fun j=>if j % 2=0 then iv (j / 2:Nat) else .pointer (some ⟨cB (j / 2),cO (j / 2),none⟩))
theorem nodeL_at(cB cO:Nat→Nat)(n j:Nat)(h:j<n*2):(nodeL cB cO n)[j]?=some (if j % 2=0 then iv (j / 2:Nat) else .pointer (some ⟨cB (j / 2),cO (j / 2),none⟩)):=by
 unfold nodeL;rw[List.getElem?_map,List.getElem?_range h];rfl
theorem SAt.regrow[Inhabited ProtD]{B:Nat}{w:World}{b:Nat}{x:Hp}{ar:Option Addr}{kr:Nat}{v4 v8:Value}{br bn:Nat}{cB cO:Nat→Nat}{pb:Nat→Nat}{pa:Nat→Option Addr}{pk:Nat→Nat}{kn hd:Nat}{vf:Value}{F:List Int}{vk:Value}{role:Nat→Nat}(h:SAt B w b x ar kr v4 v8 br cB cO bn pb pa pk kn hd vf F vk [] role)(hg:x.gray=[])(hB:B≤w.heap.size)(k:Nat)(m:Array Value)(T:TypeId)(hmk:x.cells.length≤k∧m.size=(k-x.cells.length)*2):
  SAt B ((w.drew.alloc (.cells ((nodeL cB cO x.cells.length).toArray++m) T)).setCell ⟨b,13,none⟩ (.slice (some ⟨w.heap.size,0,none⟩) x.cells.length k)) b x ar kr v4 v8 br cB cO w.heap.size pb pa pk k hd vf F vk [] (fun q=>if q=w.heap.size then 1 else role q):=by
 have hb:=h.sb.nb.1;have nb:b≠w.heap.size:=by omega
 have far1:∀q,q<w.heap.size→(w.drew.alloc (.cells ((nodeL cB cO x.cells.length).toArray++m) T)).heap[q]?=w.heap[q]?:=fun q hq=>Below.heap_alloc w.drew _ q hq
 have far:∀q,q<w.heap.size→q≠b→((w.drew.alloc (.cells ((nodeL cB cO x.cells.length).toArray++m) T)).setCell ⟨b,13,none⟩ (.slice (some ⟨w.heap.size,0,none⟩) x.cells.length k)).heap[q]?=w.heap[q]?:=fun q hq hn=>(Below.heap_setCell _ _ _ _ hn).trans (far1 q hq)
 have cb:∀o,o≠13→((w.drew.alloc (.cells ((nodeL cB cO x.cells.length).toArray++m) T)).setCell ⟨b,13,none⟩ (.slice (some ⟨w.heap.size,0,none⟩) x.cells.length k)).cell? ⟨b,o,none⟩=w.cell? ⟨b,o,none⟩:=fun o ho=>(cell_other _ (.inr (fun e=>ho e.symm))).trans (World.cell?_of_block (a:=⟨b,o,none⟩) (far1 b hb))
 have hsz:w.heap.size+1=((w.drew.alloc (.cells ((nodeL cB cO x.cells.length).toArray++m) T)).setCell ⟨b,13,none⟩ (.slice (some ⟨w.heap.size,0,none⟩) x.cells.length k)).heap.size:=by simp [World.setCell]
 have hnew:((w.drew.alloc (.cells ((nodeL cB cO x.cells.length).toArray++m) T)).setCell ⟨b,13,none⟩ (.slice (some ⟨w.heap.size,0,none⟩) x.cells.length k)).heap[w.heap.size]?=some (.cells ((nodeL cB cO x.cells.length).toArray++m) T):=(Below.heap_setCell _ _ _ _ (fun e=>nb e.symm)).trans (heap_alloc_new w.drew _)
 have cn:∀j,j<x.cells.length*2→((w.drew.alloc (.cells ((nodeL cB cO x.cells.length).toArray++m) T)).setCell ⟨b,13,none⟩ (.slice (some ⟨w.heap.size,0,none⟩) x.cells.length k)).cell? ⟨w.heap.size,j,none⟩=some (if j % 2=0 then iv (j / 2:Nat) else .pointer (some ⟨cB (j / 2),cO (j / 2),none⟩)):=fun j hj=>by
  rw[cell_of_row _ w.heap.size j _ _ (0,0) hnew,←nodeL_at cB cO x.cells.length j hj];have hl:j<(nodeL cB cO x.cells.length).toArray.size:=by simp [nodeL];exact hj
  rw[Array.getElem?_append_left hl];simp
 have rb:∀q,role q≠0→q≠b:=fun q hq e=>hq (by rw[e];exact h.sp.b)
 have nfb:Nf1 b ((w.drew.alloc (.cells ((nodeL cB cO x.cells.length).toArray++m) T)).setCell ⟨b,13,none⟩ (.slice (some ⟨w.heap.size,0,none⟩) x.cells.length k)):=(nf1_block h.sb.nb (far1 b hb) (by simp)).set _ _;have c13:(w.drew.alloc (.cells ((nodeL cB cO x.cells.length).toArray++m) T)).cell? ⟨b,13,none⟩=some (.slice (some ⟨bn,0,none⟩) x.cells.length kn):=(World.cell?_of_block (a:=⟨b,13,none⟩) (far1 b hb)).trans h.sb.n13;refine⟨⟨h.sb.bx.of fun o ho=>cb o (by omega),h.sb.ha,World.cell?_setCell_same _ _ _ c13,fun i hi=>⟨?_,?_⟩,⟨(cb 14 (by omega)).trans h.sb.fr.hd,nfb.2 14,ownsRow_of_block h.sb.fr.own (fun q hq=>far q (h.sb.fr.own.lt q hq).2 (rb q (by rw[h.sp.f q hq];omega))),h.sb.fr.apart⟩,?_,(cb 4017 (by omega)).trans h.sb.k0,?_,nfb,⟨h.sb.lo.1,hB,by omega,?_⟩⟩,h.rw.same (by omega) (fun hl=>far br (h.rw.nr hl).1.1 (rb br (by rw[h.sp.r hl];omega))) (fun q hq=>far (cB q) (h.rw.nc q hq).1.1 (rb (cB q) (by rw[h.sp.c q hq];omega))) (fun q hq hl=>far (pb q) (h.rw.pl q hq hl).2.1.1 (rb (pb q) (by rw[h.sp.p q hq hl];omega))),?_,h.pr.of (fun q hq h1=>far q hq (rb q (by rw[h1];omega))) (fun q hq h1=>by(try dsimp only);rw[if_neg (by omega)];exact h1)⟩
 ·have:=cn (i*2) (by omega);rw[if_pos (by omega),show i*2 / 2=i by omega] at this;exact this
 ·have:=cn (i*2+1) (by omega);rw[if_neg (by omega),show(i*2+1) / 2=i by omega] at this;exact this
 ·have r:=h.sb.rg;rw[hg] at r;rw[hg];exact⟨r.h0,r.hl,(cb 4015 (by omega)).trans r.r0,(cb 4016 (by omega)).trans r.r1,fun i hi=>by simp at hi,fun j hj=>let ⟨v,q⟩:=r.ro j hj;⟨v,(cb _ (by omega)).trans q⟩⟩
 ·have:=h.sb.kp;exact ownsRow_of_block (by simpa using this) (fun q hq=>far q (h.sb.kp.lt q hq).2 (rb q (by rw[h.sp.k q hq];omega)))
 ·intro j hj;have hl:j<((nodeL cB cO x.cells.length).toArray++m).size:=by simp [nodeL];omega
  refine⟨⟨((nodeL cB cO x.cells.length).toArray++m)[j],?_⟩,?_⟩
  ·rw[cell_of_row _ w.heap.size j _ _ (0,0) hnew];exact Array.getElem?_eq_getElem hl
  ·rw[World.frozen?_setCell];simp [go_sem]
 ·have ne:∀q,q<w.heap.size→¬q=w.heap.size:=fun q hq=>by omega
  refine⟨?_,if_pos rfl,fun hl=>?_,fun q hq=>?_,fun q hq=>?_,fun q hq=>?_,fun q hq hl=>?_⟩
  ·rw[if_neg nb];exact h.sp.b
  ·rw[if_neg (ne br (h.rw.nr hl).1.1)];exact h.sp.r hl
  ·rw[if_neg (ne (cB q) (h.rw.nc q hq).1.1)];exact h.sp.c q hq
  ·rw[if_neg (ne q (h.sb.fr.own.lt q hq).2)];exact h.sp.f q hq
  ·rw[if_neg (ne q (h.sb.kp.lt q hq).2)];exact h.sp.k q hq
  ·rw[if_neg (ne (pb q) (h.rw.pl q hq hl).2.1.1)];exact h.sp.p q hq hl
theorem grow_any[Inhabited ProtD]{B:Nat}{w:World}{b:Nat}{x:Hp}{ar:Option Addr}{kr:Nat}{v4 v8:Value}{br bn:Nat}{cB cO:Nat→Nat}{pb:Nat→Nat}{pa:Nat→Option Addr}{pk:Nat→Nat}{hd:Nat}{vf:Value}{F:List Int}{vk:Value}{role:Nat→Nat}(h:SAt B w b x ar kr v4 v8 br cB cO bn pb pa pk x.cells.length hd vf F vk [] role)(hg:x.gray=[])(hB:B≤w.heap.size)(m:Nat)(hm:x.cells.length+m≤8000):
  Calls Tryz.prog 140 #[.slice (some ⟨bn,0,none⟩) x.cells.length x.cells.length,.int .i64 m] w fun e w'=>∃bn' kn',e=.returned (.slice (some ⟨bn',0,none⟩) x.cells.length kn')∧Hid (∃role',SAt B (w'.setCell ⟨b,13,none⟩ (.slice (some ⟨bn',0,none⟩) x.cells.length kn')) b x ar kr v4 v8 br cB cO bn' pb pa pk kn' hd vf F vk [] role')∧Hid (w'.cell? ⟨b,13,none⟩=some (.slice (some ⟨bn,0,none⟩) x.cells.length x.cells.length)∧w'.frozen? ⟨b,13,none⟩=false∧Ext w w'∧x.cells.length+m≤kn'):=by
 rcases Nat.eq_zero_or_pos m with e | e
 ·refine(grow_room (some ⟨bn,0,none⟩) x.cells.length m w e).mono ?_;rintro e w' ⟨rfl,rfl⟩;refine⟨bn,x.cells.length,rfl,⟨role,?_⟩,h.sb.n13,h.sb.nb.2 13,Ext.refl _,by omega⟩;rw[set_same h.sb.n13];exact h
 ·refine(grow_new bn x.cells.length m (nodeL cB cO x.cells.length) w hm e (by simp [nodeL]) (fun j v hj=>?_)).mono ?_
  ·have hj2:j<x.cells.length*2:=by have:=(List.getElem?_eq_some_iff.1 hj).1;simpa [nodeL] using this
   rw[nodeL_at cB cO x.cells.length j hj2] at hj;rw[←hj];obtain⟨p0,p1⟩:=h.sb.nd (j / 2) (by omega);by_cases ev:j % 2=0
   ·rw[if_pos ev];rw[show j / 2*2=j by omega] at p0;exact p0
   ·rw[if_neg ev];rw[show j / 2*2+1=j by omega] at p1;exact p1
  ·rintro e w' ⟨k,mm,rfl,hk,hmm,rfl⟩;have xw:Ext w (w.drew.alloc (.cells ((nodeL cB cO x.cells.length).toArray++mm) 124)):=(Ext.refl w).drew.alloc _;exact⟨w.heap.size,k,rfl,⟨_,h.regrow hg hB k mm _ ⟨by omega,hmm⟩⟩,xw.keep h.sb.n13,((bcell xw).2 b 13 h.sb.nb.1).trans (h.sb.nb.2 13),xw,hk⟩
theorem SAt.freed[Inhabited ProtD]{B:Nat}{w w':World}{b:Nat}{x:Hp}{ar:Option Addr}{kr:Nat}{v4 v8:Value}{br bn:Nat}{cB cO:Nat→Nat}{pb:Nat→Nat}{pa:Nat→Option Addr}{pk:Nat→Nat}{kn hd:Nat}{vf:Value}{F:List Int}{vk:Value}{K:List Nat}{role:Nat→Nat}(h:SAt B w b x ar kr v4 v8 br cB cO bn pb pa pk kn hd vf F vk K role){vf':Value}{F':List Int}(l:LsAt w' B b 14 vf' F')(q:QFr b 14 vf vf' w w')(nf:Nf1 b w'):
  ∃role',SAt B w' b x ar kr v4 v8 br cB cO bn pb pa pk kn hd vf' F' vk K role':=by
 have nfree:∀k,role k≠4→vf.ownBlock≠some k:=fun k hk e=>hk (h.sp.f k e)
 have far:∀k,k<w.heap.size→role k≠4→role k≠0→w'.heap[k]?=w.heap[k]?:=fun k hk h1 h2=>q.block k hk (fun e=>h2 (by rw[e];exact h.sp.b)) (nfree k h1)
 have cb:∀o,o≠14→w'.cell? ⟨b,o,none⟩=w.cell? ⟨b,o,none⟩:=fun o ho=>q.hdr o ho
 have own2:∀k,vf'.ownBlock=some k→vf.ownBlock=some k∨w.heap.size≤k:=fun k hk=>by
  rcases q.own with e | ⟨g,e,hg⟩
  ·exact .inl (e ▸ hk)
  ·rw[e] at hk;injection hk with hk;exact .inr (by omega)
 have ne4:∀k,k<w.heap.size→role k≠4→vf'.ownBlock≠some k:=fun k hk hr e=>by
  rcases own2 k e with e2 | e2
  ·exact hr (h.sp.f k e2)
  ·omega
 have fn:=far bn h.sb.lo.2.2.1 (by rw[h.sp.n];omega) (by rw[h.sp.n];omega);refine⟨fun k=>(open Classical in if vf'.ownBlock=some k then 4 else role k),⟨h.sb.bx.of fun o ho=>cb o (by omega),h.sb.ha,(cb 13 (by omega)).trans h.sb.n13,fun k hk=>⟨(World.cell?_of_block (a:=⟨bn,_,none⟩) fn).trans (h.sb.nd k hk).1,(World.cell?_of_block (a:=⟨bn,_,none⟩) fn).trans (h.sb.nd k hk).2⟩,l,h.sb.rg.of fun o h1 _=>cb o (by omega),(cb 4017 (by omega)).trans h.sb.k0,ownsRow_of_block h.sb.kp (fun k hk=>far k (h.sb.kp.lt k hk).2 (by rw[h.sp.k k hk];omega) (by rw[h.sp.k k hk];omega)),nf,⟨h.sb.lo.1,h.sb.lo.2.1,h.sb.lo.2.2.of fn q.size⟩⟩,h.rw.same q.size (fun hl=>far br (h.rw.nr hl).1.1 (by rw[h.sp.r hl];omega) (by rw[h.sp.r hl];omega)) (fun k hk=>far (cB k) (h.rw.nc k hk).1.1 (by rw[h.sp.c k hk];omega) (by rw[h.sp.c k hk];omega)) (fun k hk hl=>far (pb k) (h.rw.pl k hk hl).2.1.1 (by rw[h.sp.p k hk hl];omega) (by rw[h.sp.p k hk hl];omega)),?_,h.pr.of (fun q hq h1=>far q hq (by rw[h1];omega) (by rw[h1];omega)) (fun q hq h1=>by(try dsimp only);rw[if_neg (ne4 q hq (by rw[h1];omega))];exact h1)⟩;refine⟨?_,?_,fun hl=>?_,fun k hk=>?_,fun k hk=>?_,fun k hk=>?_,fun k hk hl=>?_⟩
 ·rw[if_neg (ne4 b h.sb.nb.1 (by rw[h.sp.b];omega))];exact h.sp.b
 ·rw[if_neg (ne4 bn h.sb.lo.2.2.1 (by rw[h.sp.n];omega))];exact h.sp.n
 ·rw[if_neg (ne4 br (h.rw.nr hl).1.1 (by rw[h.sp.r hl];omega))];exact h.sp.r hl
 ·rw[if_neg (ne4 (cB k) (h.rw.nc k hk).1.1 (by rw[h.sp.c k hk];omega))];exact h.sp.c k hk
 ·rw[if_pos hk]
 ·rw[if_neg (ne4 k (h.sb.kp.lt k hk).2 (by rw[h.sp.k k hk];omega))];exact h.sp.k k hk
 ·rw[if_neg (ne4 (pb k) (h.rw.pl k hk hl).2.1.1 (by rw[h.sp.p k hk hl];omega))];exact h.sp.p k hk hl
def SameSt(x z:Hp):Prop:=z.cells.length=x.cells.length∧∀q,(z.c q).st=(x.c q).st
theorem SameSt.refl(x:Hp):SameSt x x:=⟨rfl,fun _=>rfl⟩
theorem SameSt.trans{x y z:Hp}(h:SameSt x y)(k:SameSt y z):SameSt x z:=⟨k.1.trans h.1,fun q=>(k.2 q).trans (h.2 q)⟩
theorem SameSt.set(x:Hp)(i:Nat)(c:Cl)(hc:c.st=(x.c i).st){z:Hp}(hz:z.cells=x.cells.set i c):SameSt x z:=by
 refine⟨by rw[hz];simp,fun q=>?_⟩;have e:z.c q=({ x with cells:=x.cells.set i c }:Hp).c q:=by simp only [Hp.c,hz]
 rw[e];rcases Nat.lt_or_ge i x.cells.length with hi | hi
 ·rw[Hp.c_set x i c hi q];by_cases h:q=i
  ·rw[if_pos h,h];exact hc
  ·rw[if_neg h]
 ·rw[List.set_eq_of_length_le hi]
theorem SameSt.cells{x z:Hp}(hz:z.cells=x.cells):SameSt x z:=⟨by rw[hz],fun q=>by simp only [Hp.c,hz]⟩
theorem same_shade(x:Hp)(i:Nat):SameSt x (shadeH x i):=by
 unfold shadeH
 split
 ·exact SameSt.set x i (grayC (x.c i)) rfl rfl
 ·exact SameSt.refl x
theorem same_shadeW(x:Hp)(y:Wd):SameSt x (shadeW x y):=by
 unfold shadeW
 split
 ·exact same_shade x _
 ·exact SameSt.refl x
theorem same_fold:∀(ys:List Wd) (z:Hp),SameSt z (ys.foldl shadeW z)∧(ys.foldl shadeW z).phase=z.phase
 | [],z=>⟨SameSt.refl z,rfl⟩
 | y::ys,z=>by
  obtain⟨a,b⟩:=same_fold ys (shadeW z y);exact⟨(same_shadeW z y).trans a,b.trans (shadeW_same z y).2.2.1⟩
theorem remU_12{x:Hp}(h:x.phase=1∨x.phase=2):remU x=16000:=by unfold remU;rw[if_pos h]
theorem remU_3{x:Hp}(h:x.phase=3):remU x=8000+(x.cells.length-x.hand.toNat):=by unfold remU;rw[if_neg (by omega),if_pos h]
theorem remU_45{x:Hp}(h:x.phase=4∨x.phase=5):remU x=8000:=by unfold remU;rw[if_neg (by omega),if_neg (by omega),if_pos h]
theorem remU_6{x:Hp}(h:x.phase=6):remU x=x.hand.toNat:=by unfold remU;rw[if_neg (by omega),if_neg (by omega),if_neg (by omega),if_pos h]
theorem remU_0{x:Hp}(h:x.phase=0):remU x=0:=by unfold remU;rw[if_neg (by omega),if_neg (by omega),if_neg (by omega),if_neg (by omega)]
theorem SInv.same{C:Nat}{x:Hp}{F:List Int}{K:List Nat}(h:SInv C x F K){z:Hp}(hs:SameSt x z)(hp:x.phase≠3∧x.phase≠4)(hr:remU z≤remU x)(h4:z.phase≠4)(h3:z.phase=3→z.hand=0):SInv C z F K where
 ho:=h.ho
 al:=fun i hi h0=>h.al i (by rw[←hs.1];exact hi) (by rw[←hs.2];exact h0)
 nn:=h.nn
 le:=by have:=h.le;omega
 k3:=fun e=>by rw[h.k0 hp.1 hp.2];exact⟨List.Pairwise.nil,fun i hi=>by simp at hi,fun i hi=>by rw[h3 e] at hi;simp at hi⟩
 k4:=fun e=>absurd e h4
 k0:=fun _ _=>h.k0 hp.1 hp.2
theorem inv1{C:Nat}{x:Hp}{F:List Int}{K:List Nat}(h:SInv C x F K)(hp:x.phase=1):SInv C (unit1 x) F K:=by
 have hr:=remU_12 (.inl hp);have key:∀z:Hp,SameSt x z→z.phase=1→SInv C z F K:=fun z hs hz=>h.same hs ⟨by omega,by omega⟩ (by rw[hr,remU_12 (.inl hz)];omega) (by omega) (fun e=>by omega)
 unfold unit1
 split
 ·refine h.same (z:=toPh x 2 0) (SameSt.cells rfl) ⟨by omega,by omega⟩ ?_ (by simp [toPh]) (by simp [toPh]);rw[hr,remU_12 (.inr rfl)];omega
 ·by_cases e:spkB (x.c x.hand.toNat)=true
  ·simp only [if_pos e];exact key _ ((same_shade x x.hand.toNat).trans (SameSt.cells rfl)) ((shade_same x _).2.2.2.2.2.1.trans hp)
  ·simp only [if_neg e];exact key _ (SameSt.cells rfl) hp
theorem inv2{C:Nat}{x:Hp}{F:List Int}{K:List Nat}(h:SInv C x F K)(hp:x.phase=2)(n8:x.cells.length≤8000):SInv C (unit2 x) F K:=by
 have hr:=remU_12 (.inr hp);have key:∀z:Hp,SameSt x z→z.phase=2→SInv C z F K:=fun z hs hz=>h.same hs ⟨by omega,by omega⟩ (by rw[hr,remU_12 (.inr hz)];omega) (by omega) (fun e=>by omega)
 unfold unit2
 split
 ·rename_i g G hg
  split
  ·refine key _ (((same_shadeW x _).trans (same_shadeW _ _)).trans (SameSt.cells rfl)) ?_;exact(shadeW_same _ _).2.2.1.trans ((shadeW_same _ _).2.2.1.trans hp)
  ·exact key _ (SameSt.set x g.toNat (blackC (x.c g.toNat)) rfl rfl) hp
 ·obtain⟨a,b⟩:=same_fold x.regs x;have len:(lookH x).cells.length≤8000:=by have:=a.1;unfold lookH;omega
  split
  ·refine h.same (a.trans (SameSt.cells rfl)) ⟨by omega,by omega⟩ ?_ (by simp [toPh]) (by simp [toPh]);rw[hr,remU_3 rfl];simp only [toPh];omega
  ·exact key _ a (b.trans hp)
theorem inv5{C:Nat}{x:Hp}{F:List Int}{K:List Nat}(h:SInv C x F K)(hp:x.phase=5)(n8:x.cells.length≤8000):SInv C (unit5 x) F K:=by
 have hr:=remU_45 (.inr hp);have key:∀z:Hp,SameSt x z→z.phase=5→SInv C z F K:=fun z hs hz=>h.same hs ⟨by omega,by omega⟩ (by rw[hr,remU_45 (.inr hz)];omega) (by omega) (fun e=>by omega)
 unfold unit5
 split
 ·refine h.same (z:=toPh x 6 x.cells.length) (SameSt.cells rfl) ⟨by omega,by omega⟩ ?_ (by simp [toPh]) (by simp [toPh]);rw[hr,remU_6 rfl];simp [toPh];exact n8
 ·split
  ·exact key _ (SameSt.set x x.hand.toNat (mendC x (x.c x.hand.toNat) x.sub.toNat) rfl rfl) hp
  ·exact key _ (SameSt.cells rfl) hp
theorem inv3_end{C:Nat}{x:Hp}{F:List Int}{K:List Nat}(h:SInv C x F K)(hp:x.phase=3)(he:x.hand=x.cells.length):SInv C (toPh x 4 0) F K where
 ho:=h.ho
 al:=h.al
 nn:=h.nn
 le:=by have:=h.le;rw[remU_3 hp] at this;rw[remU_45 (.inl rfl)];omega
 k3:=fun e=>by simp [toPh] at e
 k4:=fun _=>by
  have k:=h.k3 hp;rw[show x.hand.toNat=x.cells.length by omega] at k;exact k
 k0:=fun _ e=>by simp [toPh] at e
theorem inv3_step{C:Nat}{x z:Hp}{F F':List Int}{K:List Nat}(h:SInv C x F K)(hp:x.phase=3)(hz:z.phase=3)(i:Nat)(hi:x.hand=(i:Int))(hin:i<x.cells.length)(hzi:z.hand=(i:Int)+1)(hl:z.cells.length=x.cells.length)(hs:∀q,q≠i→(z.c q).st=(x.c q).st)(ho:Ho F')(hf:(F'=F∧((z.c i).st=0→(x.c i).st=0))∨F'.Perm ((i:Int)::F)):SInv C z F' (K++if (z.c i).st=1 then [i] else []) where
 ho:=ho
 al:=fun q hq h0=>by
  rw[hl] at hq;rcases hf with⟨e,e2⟩ | e
  ·rw[e];refine h.al q hq ?_;by_cases c:q=i
   ·rw[c] at h0 ⊢;exact e2 h0
   ·rw[←hs q c];exact h0
  ·refine e.mem_iff.2 ?_;by_cases c:q=i
   ·rw[c];exact List.mem_cons_self
   ·exact List.mem_cons_of_mem _ (h.al q hq (by rw[←hs q c];exact h0))
 nn:=fun v hv=>by
  rcases hf with⟨e,_⟩ | e
  ·rw[e] at hv;exact h.nn v hv
  ·rcases List.mem_cons.1 (e.mem_iff.1 hv) with e2 | e2
   ·omega
   ·exact h.nn v e2
 le:=by
  have h1:=h.le;rw[remU_3 hp] at h1;rw[remU_3 hz]
  have:F'.length≤F.length+1:=by
   rcases hf with⟨e,_⟩ | e
   ·rw[e];omega
   ·have:=e.length_eq;simp at this;omega
  omega
 k3:=fun _=>by
  have e:z.hand.toNat=i+1:=by omega
  have e2:x.hand.toNat=i:=by omega
  obtain⟨p1,p2,p3⟩:=h.k3 hp;rw[e2] at p2 p3;rw[e]
  have mem:∀q,q∈(K++if (z.c i).st=1 then [i] else [])↔q∈K∨((z.c i).st=1∧q=i):=fun q=>by
   by_cases c:(z.c i).st=1
   ·simp [c]
   ·simp [c]
  refine⟨?_,fun q hq=>?_,fun q hq h1 hn j hj h0=>?_⟩
  ·by_cases c:(z.c i).st=1
   ·rw[if_pos c];refine List.pairwise_append.2 ⟨p1,List.pairwise_singleton _ _,fun a ha b hb=>?_⟩;simp at hb;have:=(p2 a ha).1;omega
   ·rw[if_neg c,List.append_nil];exact p1
  ·rcases (mem q).1 hq with c | ⟨c,d⟩
   ·have:=p2 q c;exact⟨by omega,by rw[hs q (by omega)];exact this.2⟩
   ·rw[d];exact⟨by omega,c⟩
  ·have hne:q≠i:=fun c=>hn ((mem q).2 (.inr ⟨by rw[←c];exact h1,c⟩))
   by_cases c:j=i
   ·omega
   ·exact p3 q (by omega) (by rw[←hs q hne];exact h1) (fun c2=>hn ((mem q).2 (.inl c2))) j (by omega) (by rw[←hs j c];exact h0)
 k4:=fun e=>by omega
 k0:=fun e=>absurd hz e
theorem inv6_end{C:Nat}{x:Hp}{F:List Int}{K:List Nat}(h:SInv C x F K)(hp:x.phase=6){z:Hp}(hz:z.phase=0)(hc:z.cells=x.cells):SInv C z F K:=
 h.same (SameSt.cells hc) ⟨by omega,by omega⟩ (by rw[remU_0 hz];omega) (by omega) (fun e=>by omega)
theorem inv6_cell{C:Nat}{x z:Hp}{F F':List Int}{K:List Nat}(h:SInv C x F K)(hp:x.phase=6)(hz:z.phase=6)(i:Nat)(hi:x.hand=(i:Int)+1)(hzi:z.hand=(i:Int))(hl:z.cells.length≤x.cells.length)(hs:∀q,q<z.cells.length→q≠i→(z.c q).st=(x.c q).st)(ho:Ho F')(hf:(F'=F∧(i<z.cells.length→(z.c i).st=0→(x.c i).st=0))∨F'.Perm ((i:Int)::F)):SInv C z F' K where
 ho:=ho
 al:=fun q hq h0=>by
  rcases hf with⟨e,e2⟩ | e
  ·rw[e];refine h.al q (by omega) ?_;by_cases c:q=i
   ·rw[c] at h0 ⊢;exact e2 (by omega) h0
   ·rw[←hs q hq c];exact h0
  ·refine e.mem_iff.2 ?_;by_cases c:q=i
   ·rw[c];exact List.mem_cons_self
   ·exact List.mem_cons_of_mem _ (h.al q (by omega) (by rw[←hs q hq c];exact h0))
 nn:=fun v hv=>by
  rcases hf with⟨e,_⟩ | e
  ·rw[e] at hv;exact h.nn v hv
  ·rcases List.mem_cons.1 (e.mem_iff.1 hv) with e2 | e2
   ·omega
   ·exact h.nn v e2
 le:=by
  have h1:=h.le;rw[remU_6 hp] at h1;rw[remU_6 hz]
  have:F'.length≤F.length+1:=by
   rcases hf with⟨e,_⟩ | e
   ·rw[e];omega
   ·have:=e.length_eq;simp at this;omega
  omega
 k3:=fun e=>by omega
 k4:=fun e=>by omega
 k0:=fun _ _=>h.k0 (by omega) (by omega)
theorem inv0{C:Nat}{x:Hp}{F:List Int}{K:List Nat}(h:SInv C x F K)(hp:x.phase=0):SInv (C+16000) (toPh x 1 0) F K where
 ho:=h.ho
 al:=h.al
 nn:=h.nn
 le:=by have:=h.le;rw[remU_12 (.inl rfl)];omega
 k3:=fun e=>by simp [toPh] at e
 k4:=fun e=>by simp [toPh] at e
 k0:=fun _ _=>h.k0 (by omega) (by omega)
theorem SInv.wide{C D:Nat}{x:Hp}{F:List Int}{K:List Nat}(h:SInv C x F K)(hd:C≤D):SInv D x F K:=⟨h.ho,h.al,h.nn,Nat.le_trans h.le hd,h.k3,h.k4,h.k0⟩
end Go.Proofs.YtddkhnclmeikfaaGreat
