import Derived.Test.YtddkhnclmeikfaaGreatAo
import Derived.Deep.RegionLaw
import Derived.Deep.RegionWith
set_option maxRecDepth 100000
set_option maxHeartbeats 4000000
namespace Go.Proofs.YtddkhnclmeikfaaGreat
open Go.RowKit
attribute [local go_sem ↓] Go.wp_at_zero Go.wp_at_succ
variable{x:Hp}{B kc bc g kr br k B7 kp n kg:Nat}{ac ar ap ag:Option Addr}{vg vr vc v' v:Value}{role pb pk role':Nat->Nat}{wr w' w w3 w6 W w5:World}{pa:Nat->Option Addr}{c:Cl}{xs:List Value}
structure CS(x:Hp)(w3 w6 wr:World)(vr vc vg:Value)(k:Nat)(L:List (Cl×Value)):Prop where
 own:wr.ownsRow w6.heap.size 62 8 vc k (L.flatMap fC)
 eq:L.map (·.1)=x.cells.take k
 prs:∀z,z∈L->wr.ownsRow w6.heap.size 154 6 z.2 z.1.prs.length (z.1.prs.flatMap fP)/\∀q,z.2.ownBlock=some q->vc.ownBlock≠some q
 dis:∀i j (hi:i<L.length) (hj:j<L.length),i≠j->∀q,L[i].2.ownBlock=some q->L[j].2.ownBlock≠some q
 bx:dW wr w3.heap.size x vr vc vg
 fz:∀o,wr.frozen? ⟨w3.heap.size,o,none⟩=false
 on:uX (λq=>q=w3.heap.size) w6 wr
 ex:Ext w3 wr
 lt:w3.heap.size<w6.heap.size
theorem CS.ext{L:List (Cl×Value)}(h:CS x w3 w6 wr vr vc vg k L)(e:Ext wr w'):CS x w3 w6 w' vr vc vg k L where
 own:=uQ h.own (λq hq=>e.block q (h.own.lt q hq).2)
 eq:=h.eq
 prs:=λz hz=>⟨uQ (h.prs z hz).1 (λq hq=>e.block q ((h.prs z hz).1.lt q hq).2),(h.prs z hz).2⟩
 dis:=h.dis
 bx:=h.bx.ext e
 fz:=λo=>((cZ e).2 _ o (Nat.lt_of_lt_of_le h.lt h.on.size)).trans (h.fz o)
 on:=h.on.trans ⟨e.os,e.tape,e.output,e.size,λq hq _=>e.block q hq⟩
 ex:=h.ex.trans e
 lt:=h.lt
theorem CS.len{L:List (Cl×Value)}(h:CS x w3 w6 wr vr vc vg k L)(hk:k<=x.cells.length):L.length=k:=by
 have:=congrArg List.length h.eq
 simpa [Nat.min_eq_left hk] using this
theorem CS.push{L:List (Cl×Value)}{z:Cl×Value}(h:CS x w3 w6 W vr vc vg k L)(hk:k<x.cells.length)(hz:z.1=x.cells[k])(hg:W.grownBy w5 vc.ownBlock)(h5:w5.ownsRow w6.heap.size 62 8 v' (k+1) (L.flatMap fC++fC z))
  (hv':v'.ownBlock=some g) (hat:vc.ownBlock=some g\/g=W.heap.size) (hp:W.ownsRow B7 154 6 z.2 z.1.prs.length (z.1.prs.flatMap fP)) (h7:w6.heap.size<=B7) (hvn:∀q,vc.ownBlock=some q->q<B7) (hvp:∀y,y∈L->∀q,y.2.ownBlock=some q->q<B7) :
  CS x w3 w6 (w5.setCell ⟨w3.heap.size,4,none⟩ v') vr v' vg (k+1) (L++[z]):=by
 have hbW:w3.heap.size<W.heap.size:=Nat.lt_of_lt_of_le h.lt h.on.size;obtain⟨b1,b2,b3,b4,b5,b6⟩:=b1i (o:=4) (u:=v') (bg:=w3.heap.size) h.lt h.ex h.own (Nat.le_refl _) hbW hg h5
 have key:∀y,y∈L++[z]->W.ownsRow w6.heap.size 154 6 y.2 y.1.prs.length (y.1.prs.flatMap fP)/\∀q,y.2.ownBlock=some q->vc.ownBlock≠some q:=λy hy=>by
  rcases List.mem_append.1 hy with q | q
  ·exact h.prs y q
  ·rw[List.mem_singleton] at q;subst q;exact⟨a3m hp h7,λq e e'=>by have:=(hp.lt q e).1;have:=hvn q e';omega⟩
 have hb:dW w5 w3.heap.size x vr vc vg:=h.bx.block (hg.block w3.heap.size hbW (λe=>by have:=(h.own.lt _ e.symm).1;have:=h.lt;omega));refine⟨by simpa using b1,?_,λy hy=>?_,λi j hi hj hne q e e'=>?_,hb.set4 v',λo=>(b4 o).trans (h.fz o),?_,b2,h.lt⟩
 ·rw[List.map_append,h.eq,List.take_succ_eq_append_getElem hk];simp [hz]
 ·have kk:=key y hy;refine⟨uQ kk.1 (λq hq=>b6 q (kk.1.lt q hq).2 (λe=>by have:=(kk.1.lt q hq).1;have:=h.lt;omega) (kk.2 q hq)),λq e e'=>?_⟩;rw[hv'] at e'
  injection e' with e'
  subst e';rcases hat with r | r
  ·exact kk.2 g e r
  ·have:=(kk.1.lt g e).2;omega
 ·simp only [List.getElem_append] at e e';simp at hi hj;by_cases hi':i<L.length <;> by_cases hj':j<L.length
  ·simp only [hi',hj',dite_true] at e e';exact h.dis i j hi' hj' hne q e e'
  ·simp only [hi',hj',dite_true,dite_false,List.getElem_singleton] at e e';have:=hvp _ (List.getElem_mem hi') q e;have:=(hp.lt q e').1;omega
  ·simp only [hi',hj',dite_true,dite_false,List.getElem_singleton] at e e';have:=hvp _ (List.getElem_mem hj') q e';have:=(hp.lt q e).1;omega
  ·omega
 ·exact⟨hg.os.trans h.on.os,hg.tape.trans h.on.tape,hg.output.trans h.on.output,by have:=hg.size;have:=h.on.size;simp only [World.setCell,Array.size_modify];omega,λq hq hne=>(b6 q (Nat.lt_of_lt_of_le hq h.on.size) hne (λe=>by have:=(h.own.lt q e).1;omega)).trans (h.on.block q hq hne)⟩
structure CB(wr W:World)(c:Cl)(ap:Option Addr)(kp:Nat)(v:Value):Prop where
 p7:W.cell? ⟨wr.heap.size,7,none⟩=some (.slice ap c.prs.length kp)
 n:S7 W (wr.heap.size+1) 0 c
 n7:W.cell? ⟨wr.heap.size+1,7,none⟩=some v
 f:∀o,W.frozen? ⟨wr.heap.size+1,o,none⟩=false
 ex:Ext wr W
theorem CB.ext{W':World}(h:CB wr W c ap kp v)(e:Ext W W'):CB wr W' c ap kp v:=
 ⟨e.keep h.p7,h.n.of λ_ _=>e.cell (p:=⟨wr.heap.size+1,_,none⟩) (show wr.heap.size+1<W.heap.size from uL h.n7),e.keep h.n7,λo=>((cZ e).2 _ o (uL h.n7)).trans (h.f o),h.ex.trans e⟩
theorem CB.push{n':Nat}{ys:List Value}(h:CB wr W c ap kp v)(hW:W.ownsRow B7 154 6 v n xs)(h7:wr.heap.size+1<B7)(hg:W.grownBy w5 v.ownBlock)(h5:w5.ownsRow B7 154 6 v' n' ys):
  (w5.setCell ⟨wr.heap.size+1,7,none⟩ v').ownsRow B7 154 6 v' n' ys/\CB wr (w5.setCell ⟨wr.heap.size+1,7,none⟩ v') c ap kp v':=by
 obtain⟨b1,b2,b3,b4,b5,b6⟩:=b1i (o:=7) (u:=v') (bg:=wr.heap.size+1) h7 h.ex hW (Nat.le_succ _) (uL h.n7) hg h5;refine⟨b1,?_,h.n.of λj hj=>b3 _ (by omega),b5 _ h.n7,λo=>(b4 o).trans (h.f o),b2⟩;exact(World.cell?_of_block (a:=⟨wr.heap.size,7,none⟩) (b6 wr.heap.size (uL h.p7) (by omega) (λe=>by have:=(hW.lt _ e).1;omega))).trans h.p7
theorem CB.start(wr:World)(c:Cl)(ap:Option Addr)(kp:Nat)(t1 t2:TypeId):CB wr ((wr.alloc (.cells #[iv c.st,iv c.kind,iv c.weak,iv c.last,iv c.born,iv c.color,iv c.to,.slice ap c.prs.length kp] t1)).alloc (.cells #[iv c.st,iv c.kind,iv c.weak,iv c.last,iv c.born,iv c.color,iv c.to,.slice none 0 0] t2)) c ap kp (.slice none 0 0):=
 ⟨by simp [go_sem],⟨by simp [go_sem],by simp [go_sem],by simp [go_sem],by simp [go_sem],by simp [go_sem],by simp [go_sem],by simp [go_sem]⟩,by simp [go_sem],λo=>by simp [go_sem],((Ext.refl wr).alloc _).alloc _⟩
theorem c0u{t sz:Nat}{a:Option Addr}(h:w.ownsRow B t sz (.slice a n k) n xs):n<=k:=by
 rcases h.2 with⟨h0,h1⟩ | ⟨g,cap,cur,h0,_,_,hn,_⟩
 ·omega
 ·simp only [Value.slice.injEq] at h0;omega
structure GSep(x:Hp)(role:Nat->Nat)(g br bc:Nat)(pb pk:Nat->Nat)(vg:Value):Prop where
 g:role g=0
 r:0<x.regs.length->role br=2
 c:0<x.cells.length->role bc=3
 y:∀q,vg.ownBlock=some q->role q=4
 p:∀q,q<x.cells.length->0<pk q->role (pb q)=6+q
structure Ccp(B:Nat)(w:World)(ac:Option Addr)(bc kc:Nat)(role:Nat->Nat):Prop where
 ad:ac=some ⟨bc,0,none⟩
 ro:role bc=3
 nf:Nf1 bc w
 cp:∀j,j<kc*8->∃v,w.cell? ⟨bc,j,none⟩=some v
 lo:B<=bc
theorem Ccp.cells(h:Ccp B w ac bc kc role)(hr:role' bc=role bc)(n:Nf1 bc w')(c:∀j v,j<kc*8->w.cell? ⟨bc,j,none⟩=some v->∃u,w'.cell? ⟨bc,j,none⟩=some u):Ccp B w' ac bc kc role':=
 ⟨h.ad,hr.trans h.ro,n,λj hj=>let ⟨v,hv⟩:=h.cp j hj;c j v hj hv,h.lo⟩
theorem Ccp.block(h:Ccp B w ac bc kc role)(hr:role' bc=role bc)(hb:w'.heap[bc]?=w.heap[bc]?)(hs:w.heap.size<=w'.heap.size):Ccp B w' ac bc kc role':=
 h.cells hr (hY h.nf hb hs) (λj v _ hv=>⟨v,(World.cell?_of_block (a:=⟨bc,j,none⟩) hb).trans hv⟩)
theorem S7.some{w:World}{b o:Nat}{c:Cl}(h:S7 w b o c)(j:Nat)(hj:j<7):∃v,w.cell? ⟨b,o+j,none⟩=some v:=by
 obtain⟨h0,h1,h2,h3,h4,h5,h6⟩:=h
 match j,hj with
 | 0,_=>exact⟨_,h0⟩
 | 1,_=>exact⟨_,h1⟩
 | 2,_=>exact⟨_,h2⟩
 | 3,_=>exact⟨_,h3⟩
 | 4,_=>exact⟨_,h4⟩
 | 5,_=>exact⟨_,h5⟩
 | 6,_=>exact⟨_,h6⟩
structure GAt[Inhabited uN](B:Nat)(w:World)(g:Nat)(x:Hp)(ar:Option Addr)(kr:Nat)(ac:Option Addr)(kc:Nat)(vg:Value)(br bc:Nat)(pb:Nat->Nat)(pa:Nat->Option Addr)(pk:Nat->Nat)(role:Nat->Nat):Prop where
 bx:dW w g x (.slice ar x.regs.length kr) (.slice ac x.cells.length kc) vg
 nf:Nf1 g w
 lo:B<=g
 ha:0<x.regs.length->ar=some ⟨br,0,none⟩
 hc:0<x.cells.length->ac=some ⟨bc,0,none⟩
 rw:Rws B w x br bc pb pa pk
 gr:Grw w B vg x.gray
 sp:GSep x role g br bc pb pk vg
 kl:x.cells.length<=kc
 pr:Prt w role
 cc:0<kc->Ccp B w ac bc kc role
theorem GAt.ext[Inhabited uN](h:GAt B w g x ar kr ac kc vg br bc pb pa pk role)(e:Ext w w'):GAt B w' g x ar kr ac kc vg br bc pb pa pk role:=
 ⟨h.bx.ext e,h.nf.ext e,h.lo,h.ha,h.hc,h.rw.ext e,h.gr.block (λq hq=>e.block q (h.gr.lt q hq).2),h.sp,h.kl,h.pr.of (λq hq _=>e.block q hq) (λ_ _ h=>h),λhk=>(h.cc hk).block rfl (e.block bc (h.cc hk).nf.1) e.size⟩
theorem GAt.start [Inhabited uN] (hz : ∀ q, (default : uN).z q = none)  {w7:World}      {vg0:Value} {L : List (Cl × Value)} (h : CS x w3 w6 wr (.slice ar x.regs.length kr) (.slice ac x.cells.length kc) vg0 x.cells.length L) (hr : wr.ownsRow (w3.heap.size + 1) 152 3 (.slice ar x.regs.length kr) x.regs.length (x.regs.flatMap fW)) (hr6 : ∀ q, (Value.slice ar x.regs.length kr).ownBlock = some q -> q < w6.heap.size)
    (h0 : 0 < x.regs.length) (hB : B <= w3.heap.size) (o7 : uX (λq => q = w3.heap.size) wr w7) (hb7 : dW w7 w3.heap.size x (.slice ar x.regs.length kr) (.slice ac x.cells.length kc) vg) (f7 : Nf1 w3.heap.size w7) (hg : w7.ownsRow wr.heap.size 3 1 vg x.gray.length (x.gray.map iv)) :
    ∃ br bc pb pa pk role, GAt B w7 w3.heap.size x ar kr ac kc vg br bc pb pa pk role := by
  have hll : L.length = x.cells.length := h.len (Nat.le_refl _)
  have eL : L.map (·.1) = x.cells := by rw [h.eq, List.take_length]
  have hlt := h.lt
  have hon := h.on.size
  have l1 : ∀ q (hq : q < x.cells.length), (L.getD q (Cl0, .slice none 0 0)) ∈ L /\ (L.getD q (Cl0, .slice none 0 0)).1 = x.c q /\ (L.getD q (Cl0, .slice none 0 0)) = L[q]'(by omega) := λq hq => by
    have e0 : L.getD q (Cl0, .slice none 0 0) = L[q]'(by omega) := by simp [hll, hq]
    refine ⟨by rw [e0]; exact List.getElem_mem _, ?_, e0⟩
    have e : x.cells[q] = (L.map (·.1))[q]'(by simpa [hll] using hq) := by simp [eL]
    rw [<- Hp.c_eq x q hq, e, e0]
    simp
  have own8 : 0 < x.cells.length -> Nf1 (qQ (.slice ac x.cells.length kc)) wr /\ w6.heap.size <= qQ (.slice ac x.cells.length kc) := λhn => a9n h.own hn
  have cell8 : ∀ q, q < x.cells.length -> ∀ j, j < 8 -> wr.cell? ⟨qQ (.slice ac x.cells.length kc), q * 8 + j, none⟩ = (fC (L.getD q (Cl0, .slice none 0 0)))[j]? := λq hq j hj => by
    have := a7q (f := fC) (λ_ => rfl) (L := L) (by rw [hll]; exact h.own) q (by omega) j hj
    rw [this, (l1 q hq).2.2]
  have hbr := a9n hr h0
  have hbr6 : qQ (.slice ar x.regs.length kr) < w6.heap.size := hr6 _ ((a0k hr).2 h0).2
  have prs : ∀ q, q < x.cells.length -> wr.ownsRow w6.heap.size 154 6 (L.getD q (Cl0, .slice none 0 0)).2 (x.c q).prs.length ((x.c q).prs.flatMap fP) /\ ∀ b, (L.getD q (Cl0, .slice none 0 0)).2.ownBlock = some b -> (Value.slice ac x.cells.length kc).ownBlock ≠ some b := λq hq => by
    have := h.prs _ (l1 q hq).1
    rw [(l1 q hq).2.1] at this
    exact this
  have dis : ∀ q q', q < x.cells.length -> q' < x.cells.length -> q ≠ q' -> ∀ b, (L.getD q (Cl0, .slice none 0 0)).2.ownBlock = some b -> (L.getD q' (Cl0, .slice none 0 0)).2.ownBlock ≠ some b := λq q' hq hq' hne b hb => by
    rw [(l1 q hq).2.2] at hb
    rw [(l1 q' hq').2.2]
    exact h.dis q q' (by omega) (by omega) hne b hb
  have RW := Rws.of (B := w3.heap.size + 1) (w := wr) (x := x) (vr := .slice ar x.regs.length kr) (bc := qQ (.slice ac x.cells.length kc)) (pv := λq => (L.getD q (Cl0, .slice none 0 0)).2) hr (λq hq => by
      rw [<- (l1 q hq).2.1]
      have := cell8 q hq
      exact ⟨this 0 (by omega), this 1 (by omega), this 2 (by omega), this 3 (by omega), this 4 (by omega), this 5 (by omega), this 6 (by omega)⟩) (λq hq => cell8 q hq 7 (by omega)) (λhn => ⟨(own8 hn).1, by have := (own8 hn).2; omega⟩) (λhn => by have := (own8 hn).2; omega) (λq hq => ⟨a3m (prs q hq).1 (by omega), λb hb => ⟨by have := ((prs q hq).1.lt b hb).1; omega, λe => by
        have hn : 0 < x.cells.length := by omega
        exact (prs q hq).2 b hb (by rw [((a0k h.own).2 hn).2, e])⟩⟩) dis
  have RW7 := RW.only o7 (λhl e => by have := (RW.nr hl).2; omega) (λhl e => by have := (RW.nc hl).2; omega) (λq hq hl e => by have := (RW.pl q hq hl).2.2.2; omega)
  refine ⟨_, _, _, _, _, λq => if q = w3.heap.size then 0 else if wr.heap.size <= q then 4 else if q = qQ (.slice ar x.regs.length kr) then 2 else if 0 < kc /\ q = qQ (.slice ac x.cells.length kc) then 3 else
    (open Classical in if h : ∃ i, i < x.cells.length /\ 0 < yC (L.getD i (Cl0, .slice none 0 0)).2 /\ qQ (L.getD i (Cl0, .slice none 0 0)).2 = q then 6 + Classical.choose h else 5), hb7, f7, hB, λh => ((a0k hr).2 h).1, λhn => ((a0k h.own).2 hn).1, RW7.less (by omega), Grw.of (a3m hg (by omega)), ⟨if_pos rfl, λhl => ?_, λhl => ?_, λq hq => ?_, λq hq hl => ?_⟩, c0u h.own, λq o h => (by rw [hz q] at h; cases h), λhk => ?_⟩
  · have := (RW.nr hl).2
    have := (RW.nr hl).1.1
    rw [if_neg (by omega), if_neg (by omega), if_pos rfl]
  · have := (RW.nc hl).2
    have := (RW.nc hl).1.1
    rw [if_neg (by omega), if_neg (by omega), if_neg (λe => RW.d hl e.symm), if_pos ⟨Nat.lt_of_lt_of_le hl (c0u h.own), rfl⟩]
  · have := (hg.lt q hq).1
    rw [if_neg (by omega), if_pos (by omega)]
  · have l2 := RW.pl q hq hl
    have := l2.2.2.2
    have := l2.2.1.1
    have hex : ∃ i, i < x.cells.length /\ 0 < yC (L.getD i (Cl0, .slice none 0 0)).2 /\ qQ (L.getD i (Cl0, .slice none 0 0)).2 = qQ (L.getD q (Cl0, .slice none 0 0)).2 := ⟨q, hq, hl, rfl⟩
    rw [if_neg (by omega), if_neg (by omega), if_neg l2.2.2.1.1, if_neg (λe => l2.2.2.1.2 e.2), dif_pos hex]
    have sp := Classical.choose_spec hex
    have : Classical.choose hex = q := by
      rcases Nat.decEq (Classical.choose hex) q with h | h
      · exact absurd sp.2.2 (RW.dp _ q sp.1 hq h sp.2.1 hl)
      · exact h
    rw [this]
  · have hk2 : 0 < yC (.slice ac x.cells.length kc) := hk
    obtain ⟨k1, k2, k3, k4, k5⟩ := c5e h.own hk2
    have e7 := o7.block (qQ (.slice ac x.cells.length kc)) k3.1 (λe => by omega)
    refine ⟨k1, ?_, hY k3 e7 o7.size, λj hj => ?_, by omega⟩
    · have := k3.1
      rw [if_neg (by omega), if_neg (by omega), if_neg (by omega), if_pos ⟨hk, rfl⟩]
    · obtain ⟨u, hu⟩ := k4 j hj
      exact ⟨u, (World.cell?_of_block (a := ⟨_, j, none⟩) e7).trans hu⟩
theorem b1k[Inhabited uN](hz:∀q,(default:uN).z q=none)(x:Hp)(w:World){ar:Option Addr}{kr:Nat}{ac:Option Addr}{kc:Nat}{ag:Option Addr}{kg:Nat}(hR:SlW w (.slice ar x.regs.length kr) x.regs)(hC:SlC w (.slice ac x.cells.length kc) x.cells)(hG:SlI w (.slice ag x.gray.length kg) x.gray)(h0:0<x.regs.length)(n1:x.regs.length<=100)(n2:x.cells.length<=8000)(n3:∀q,q<x.cells.length->(x.c q).prs.length<=200)(n4:x.gray.length<=8000):
  Calls Tryz.prog 83 #[x.v (.slice ar x.regs.length kr) (.slice ac x.cells.length kc) (.slice ag x.gray.length kg)] w λe w'=>∃g,e=.returned (.pointer (some ⟨g,0,none⟩))/\Hid (∃ar kr ac kc vg br bc pb pa pk role,GAt w.heap.size w' g x ar kr ac kc vg br bc pb pa pk role)/\Ext w w':=by
 have xa:=(Ext.refl w).alloc (.cells #[iv x.room,iv x.used,iv x.born,.slice ar x.regs.length kr,.slice ac x.cells.length kc,iv x.phase,iv x.hand,iv x.sub,.slice ag x.gray.length kg,iv x.per,iv x.start,iv x.rounds,iv x.forced] 34);obtain⟨w3,hw3⟩:∃W,W=w.alloc (.cells #[iv x.room,iv x.used,iv x.born,.slice ar x.regs.length kr,.slice ac x.cells.length kc,iv x.phase,iv x.hand,iv x.sub,.slice ag x.gray.length kg,iv x.per,iv x.start,iv x.rounds,iv x.forced] 34):=⟨_,rfl⟩;have hs3:w3.heap.size=w.heap.size+1:=by rw[hw3];simp
 have X3:Ext w w3:=by rw[hw3];exact xa
 have SR:=uU (SlW.ext X3 hR);have SC:=uU (SlC.ext X3 hC);have SG:=uU (SlI.ext X3 hG);have BH:=uU (show dW w3 w.heap.size x (.slice ar x.regs.length kr) (.slice ac x.cells.length kc) (.slice ag x.gray.length kg) by rw[hw3];exact dW.new w x _ _ _ _);have G0:=uU (show dW (w3.alloc (.cells #[iv x.room,iv x.used,iv x.born,.slice none 0 0,.slice ac x.cells.length kc,iv x.phase,iv x.hand,iv x.sub,.slice ag x.gray.length kg,iv x.per,iv x.start,iv x.rounds,iv x.forced] 34)) w3.heap.size x (.slice none 0 0) (.slice ac x.cells.length kc) (.slice ag x.gray.length kg)/\(∀o,(w3.alloc (.cells #[iv x.room,iv x.used,iv x.born,.slice none 0 0,.slice ac x.cells.length kc,iv x.phase,iv x.hand,iv x.sub,.slice ag x.gray.length kg,iv x.per,iv x.start,iv x.rounds,iv x.forced] 34)).frozen? ⟨w3.heap.size,o,none⟩=false) from⟨dW.new w3 x _ _ _ _,λo=>by simp [go_sem]⟩);obtain⟨iw,hiw,hw0,hw1,hw2⟩:=info_parts b3t;obtain⟨iq,hiq,hq0,hq1,hq2⟩:=info_parts a4i;obtain⟨ic,hic,hc0,hc1,hc2⟩:=info_parts a6u;obtain⟨ii,hii,hi0,hi1,hi2⟩:=info_parts b1g;clear hR hC hG xa;go_enter Tryz.func83,Tryz.ntmps83;go_wp2_with fail;rw[<-hw3,<-hs3];have HS3:=uU hs3;have hlt3:w.heap.size<w3.heap.size:=by omega
 clear hw3 hs3;go_loopw [18] (λi wr=>∃(k:Nat) (av:Option Addr) (kv:Nat),k<=x.regs.length/\i=.int .i64 k/\Hid (wr.ownsRow (w3.heap.size+1) 152 3 (.slice av k kv) k ((x.regs.take k).flatMap fW))/\Hid (dW wr w3.heap.size x (.slice av k kv) (.slice ac x.cells.length kc) (.slice ag x.gray.length kg)/\(∀o,wr.frozen? ⟨w3.heap.size,o,none⟩=false))/\Hid (Ext w3 wr)) (λi _=>x.regs.length-(intOf i).toNat)
 case atStart=>exact⟨0,none,0,Nat.zero_le _,rfl,World.ownsRow_nil _ _ _ _,uH G0,(Ext.refl w3).alloc _⟩
 case round=>
  clear G0;obtain⟨k,av,kv,hk,rfl,hown,hgc,hex⟩:=hrel;by_cases hlt:k<x.regs.length
  ·obtain⟨b',o,har,p0,p1,p2⟩:∃b' o,ar=some ⟨b',o,none⟩/\tW w3 b' (o+k*3) x.regs[k]:=by
    obtain⟨ad,cap,e,_,hx⟩:=uH SR;simp only [Value.slice.injEq] at e;rw[e.1];exact hx k hlt
   subst har;have p0:=(uH hex).keep p0;have p1:=(uH hex).keep p1;have p2:=(uH hex).keep p2;have hb':b'<wr.heap.size:=uL p0;have g3:=(uH hgc).1.2.2.2.1;have f3:=(uH hgc).2 3;have hbg:w3.heap.size<wr.heap.size:=uL g3;have hk0:(0:Int)<=(k:Int):=by omega
   have hk1:(k:Int)<(x.regs.length:Int):=by omega
   have ETK:=uU (show x.regs.take (k+1)=x.regs.take k++[x.regs[k]] by rw[List.take_succ_eq_append_getElem hlt]);obtain⟨y,ey⟩:∃y,y=x.regs[k]:=⟨_,rfl⟩;rw[<-ey] at p0 p1 p2 ETK;clear ey;go_wp2_with (at_builtin;refine wpList_append_lies _ rfl _ _ 30 rfl (w3.heap.size+1) 152 iw (.agg #[iv 0,iv 0,iv 0]) 3 24 Tryz.underlying30 hiw hw0 hw1 hw2 rfl (by decide) _ k ((x.regs.take k).flatMap fW) rfl (((uH hown).alloc _).alloc _) _ 1 1 (fW y) rfl rfl ?c1 ?c2 (by decide) ?c3 ?c4 ?c5 _ rfl ?_)
   case c1=>
    intro j u hj
    match j,hj with
    | 0,hj=>simp [fW] at hj;subst hj;simp [go_sem]
    | 1,hj=>simp [fW] at hj;subst hj;simp [go_sem]
    | 2,hj=>simp [fW] at hj;subst hj;simp [go_sem]
   case c2=>intro u hu;simp [fW] at hu;rcases hu with e | e | e <;> subst e <;> first | rfl
   case c3=>unfold maxLen;omega
   case c4=>omega
   case c5=>simp;omega
   intro gb cap5 w5 hown5 hgrow hat hglt;have xb:=((Ext.refl wr).alloc (.cells #[iv y.k,iv y.n,iv y.a] 152)).alloc (.cells #[iv y.k,iv y.n,iv y.a] 152);have BP:=uU (b1i (o:=3) (u:=.slice (some ⟨gb,0,none⟩) (k+1) cap5) (bg:=w3.heap.size) (Nat.lt_succ_self _) ((uH hex).trans xb) (((uH hown).alloc _).alloc _) (Nat.le_refl _) (Nat.lt_of_lt_of_le hbg xb.size) hgrow hown5);have eb:w5.heap[w3.heap.size]?=wr.heap[w3.heap.size]?:=(hgrow.block w3.heap.size (Nat.lt_of_lt_of_le hbg xb.size) (λe=>by have:=((uH hown).lt _ e.symm).1;omega)).trans (xb.block _ hbg);have g5:=(World.cell?_of_block (a:=⟨w3.heap.size,3,none⟩) eb).trans g3;have f5:=(World.frozen?_of_block (a:=⟨w3.heap.size,3,none⟩) eb).trans f3;have HB:=uU (((uH hgc).1.block eb).set3 (.slice (some ⟨gb,0,none⟩) (k+1) cap5));have FZ:=uU (show ∀o,(w5.setCell ⟨w3.heap.size,3,none⟩ (.slice (some ⟨gb,0,none⟩) (k+1) cap5)).frozen? ⟨w3.heap.size,o,none⟩=false from λo=>by rw[World.frozen?_setCell];exact(World.frozen?_of_block (a:=⟨w3.heap.size,o,none⟩) eb).trans ((uH hgc).2 o));clear hown5 hgrow hat xb eb;go_wp2_with fail;go_roundw
   case rel=>
    refine⟨k+1,some ⟨gb,0,none⟩,cap5,hlt,by go_num,?_,⟨uH HB,uH FZ⟩,(uH BP).2.1⟩;rw[uH ETK,List.flatMap_append];refine uU ?_
    simpa using (uH BP).1
   case measure=>simp [intOf];omega
  ·have hk2:k=x.regs.length:=by omega
   subst hk2;have OW:=uU (show wr.ownsRow (w3.heap.size+1) 152 3 (.slice av x.regs.length kv) x.regs.length (x.regs.flatMap fW) by have:=uH hown;rw[List.take_length] at this;exact this);obtain⟨w6,hw6⟩:∃W,W=wr:=⟨_,rfl⟩;subst hw6;have g4:=(uH hgc).1.2.2.2.2.1;have f4:=(uH hgc).2 4;have hbg:w3.heap.size<w6.heap.size:=uL g4;have b4:=(uH hex).keep (uH BH).2.2.2.2.1;have hne1:¬w3.heap.size=w.heap.size:=by omega
   have hne2:¬w.heap.size=w3.heap.size:=by omega
   have C0:=uU (show CS x w3 w6 (w6.setCell ⟨w3.heap.size,4,none⟩ (.slice none 0 0)) (.slice av x.regs.length kv) (.slice none 0 0) (.slice ag x.gray.length kg) 0 [] from
    ⟨World.ownsRow_nil _ _ _ _,by simp,λz hz=>by simp at hz,λi j hi=>by simp at hi,(uH hgc).1.set4 _,λo=>by rw[World.frozen?_setCell];exact(uH hgc).2 o,uX.setCell (S:=λq=>q=w3.heap.size) (uX.refl _ w6) (p:=⟨w3.heap.size,4,none⟩) rfl _,(uH hex).setCell (Nat.le_refl _) _,hbg⟩)
   have X6:=uU (uH hex);have V6:=uU (λq e=>((uH OW).lt q e).2);clear hown hgc hex hlt hk;go_wp2_with fail;clear g4 f4 b4;go_loopw [33] (λi wr=>∃(k:Nat) (avc:Option Addr) (kvc:Nat) (L:List (Cl×Value)),k<=x.cells.length/\i=.int .i64 k/\Hid (CS x w3 w6 wr (.slice av x.regs.length kv) (.slice avc k kvc) (.slice ag x.gray.length kg) k L)) (λi _=>x.cells.length-(intOf i).toNat)
   case atStart=>exact⟨0,none,0,[],Nat.zero_le _,rfl,uH C0⟩
   case round=>
    clear C0;obtain⟨wn,hwn⟩:∃W,W=wr:=⟨_,rfl⟩;subst hwn;obtain⟨k,avc,kvc,L,hk,rfl,hcs⟩:=hrel;by_cases hlt:k<x.cells.length
    ·obtain⟨bc,oc,hac,hbc3,vp0,p0,p1,p2,p3,p4,p5,p6,p7,hP⟩:∃bc oc,ac=some ⟨bc,oc,none⟩/\bc<w3.heap.size/\ClAt w3 bc (oc+k*8) (x.c k):=by
      obtain⟨ad,cap,e,_,hx⟩:=uH SC;obtain⟨b2,o2,e2,q⟩:=hx k hlt;rw[Hp.c_eq x k hlt] at q;simp only [Value.slice.injEq] at e;exact⟨b2,o2,e.1.trans e2,let ⟨_,p0,_⟩:=q;uL p0,q⟩
     subst hac;obtain⟨ap,kp,rfl,_,hPx⟩:=hP;have CP:=uU hPx;have X:=(uH hcs).ex;have p0:=X.keep p0;have p1:=X.keep p1;have p2:=X.keep p2;have p3:=X.keep p3;have p4:=X.keep p4;have p5:=X.keep p5;have p6:=X.keep p6;have p7:=X.keep p7;have hl200:=n3 k hlt;have hk0:(0:Int)<=(k:Int):=by omega
     have hk1:(k:Int)<(x.cells.length:Int):=by omega
     have hbc:bc<wn.heap.size:=uL p0;clear hPx X;go_wp2_with fail;have B0:=uU (CB.start wn (x.c k) ap kp 62 62);have hsz2:((wn.alloc (.cells #[iv (x.c k).st,iv (x.c k).kind,iv (x.c k).weak,iv (x.c k).last,iv (x.c k).born,iv (x.c k).color,iv (x.c k).to,.slice ap (x.c k).prs.length kp] 62)).alloc (.cells #[iv (x.c k).st,iv (x.c k).kind,iv (x.c k).weak,iv (x.c k).last,iv (x.c k).born,iv (x.c k).color,iv (x.c k).to,.slice none 0 0] 62)).heap.size=wn.heap.size+2:=by simp
     have HZ2:=uU hsz2;clear p0 p1 p2 p3 p4 p5 p6 p7 hsz2;go_loopw [42] (λi wr=>∃(p:Nat) (avp:Option Addr) (kvp:Nat),p<=(x.c k).prs.length/\i=.int .i64 p/\Hid (wr.ownsRow (wn.heap.size+2) 154 6 (.slice avp p kvp) p (((x.c k).prs.take p).flatMap fP))/\Hid (CB wn wr (x.c k) ap kp (.slice avp p kvp))/\wn.heap.size+2<=wr.heap.size) (λi _=>(x.c k).prs.length-(intOf i).toNat)
     case atStart=>exact⟨0,none,0,Nat.zero_le _,rfl,World.ownsRow_nil _ _ _ _,uH B0,by rw[uH HZ2];exact Nat.le_refl _⟩
     case round=>
      clear B0;obtain⟨p,avp,kvp,hp,rfl,hown,hcb,hsz⟩:=hrel;by_cases hpt:p<(x.c k).prs.length
      ·obtain⟨bp,op,hap,q0,q1,q2,q3,q4,q5⟩:=uH CP p hpt;subst hap;have XX:=(uH hcs).ex.trans (uH hcb).ex;have q0:=XX.keep q0;have q1:=XX.keep q1;have q2:=XX.keep q2;have q3:=XX.keep q3;have q4:=XX.keep q4;have q5:=XX.keep q5;have ETP:=uU (show(x.c k).prs.take (p+1)=(x.c k).prs.take p++[(x.c k).prs[p]] by rw[List.take_succ_eq_append_getElem hpt]);obtain⟨y,ey⟩:∃y,y=(x.c k).prs[p]:=⟨_,rfl⟩;rw[<-ey] at q0 q1 q2 q3 q4 q5 ETP;clear ey XX;have hp0:(0:Int)<=(p:Int):=by omega
       have hp1:(p:Int)<((x.c k).prs.length:Int):=by omega
       have hbp:bp<wr.heap.size:=uL q0;have n7:=(uH hcb).n7;have f7:=(uH hcb).f 7;have hbn:wn.heap.size+1<wr.heap.size:=uL n7;go_wp2_with (at_builtin;refine wpList_append_lies _ rfl _ _ 60 rfl (wn.heap.size+2) 154 iq (.agg #[iv 0,iv 0,iv 0,iv 0,iv 0,iv 0]) 6 48 Tryz.underlying60 hiq hq0 hq1 hq2 rfl (by decide) _ p (((x.c k).prs.take p).flatMap fP) rfl (((uH hown).alloc _).alloc _) _ 1 1 (fP y) rfl rfl ?c1 ?c2 (by decide) ?c3 ?c4 ?c5 _ rfl ?_)
       case c1=>
        intro j u hj
        match j,hj with
        | 0,hj=>simp [fP] at hj;subst hj;simp [go_sem]
        | 1,hj=>simp [fP] at hj;subst hj;simp [go_sem]
        | 2,hj=>simp [fP] at hj;subst hj;simp [go_sem]
        | 3,hj=>simp [fP] at hj;subst hj;simp [go_sem]
        | 4,hj=>simp [fP] at hj;subst hj;simp [go_sem]
        | 5,hj=>simp [fP] at hj;subst hj;simp [go_sem]
       case c2=>intro u hu;simp [fP] at hu;rcases hu with e | e | e | e | e | e <;> subst e <;> first | rfl
       case c3=>unfold maxLen;omega
       case c4=>omega
       case c5=>simp;omega
       intro gb cap5 w5 hown5 hgrow hat hglt;have xb:=((Ext.refl wr).alloc (.cells #[iv y.key.k,iv y.key.n,iv y.key.a,iv y.val.k,iv y.val.n,iv y.val.a] 154)).alloc (.cells #[iv y.key.k,iv y.key.n,iv y.key.a,iv y.val.k,iv y.val.n,iv y.val.a] 154);have BP:=uU (CB.push ((uH hcb).ext xb) (((uH hown).alloc _).alloc _) (by omega) hgrow hown5);have eb:w5.heap[wn.heap.size+1]?=wr.heap[wn.heap.size+1]?:=(hgrow.block (wn.heap.size+1) (Nat.lt_of_lt_of_le hbn xb.size) (λe=>by have:=((uH hown).lt _ e.symm).1;omega)).trans (xb.block _ hbn);have g5:=(World.cell?_of_block (a:=⟨wn.heap.size+1,7,none⟩) eb).trans n7;have f5:=(World.frozen?_of_block (a:=⟨wn.heap.size+1,7,none⟩) eb).trans f7;have hsz9:wn.heap.size+2<=(w5.setCell ⟨wn.heap.size+1,7,none⟩ (.slice (some ⟨gb,0,none⟩) (p+1) cap5)).heap.size:=by have h1:=hgrow.size;simp at h1;simp only [World.setCell,Array.size_modify];omega
       clear hown5 hgrow hat xb eb;go_wp2_with fail;go_roundw
       case rel=>
        refine⟨p+1,some ⟨gb,0,none⟩,cap5,hpt,by go_num,?_,(uH BP).2,hsz9⟩;rw[uH ETP,List.flatMap_append];refine uU ?_
        simpa using (uH BP).1
       case measure=>simp [intOf];omega
      ·have hp2:p=(x.c k).prs.length:=by omega
       subst hp2;have CS1:=uU ((uH hcs).ext (uH hcb).ex);have c4:=(uH CS1).bx.2.2.2.2.1;have cf:=(uH CS1).fz 4;obtain⟨s0,s1,s2,s3,s4,s5,s6⟩:=(uH hcb).n;simp only [Nat.zero_add] at s1 s2 s3 s4 s5 s6;have s7:=(uH hcb).n7;have hbn:wn.heap.size+1<wr.heap.size:=uL s7;have hbg2:w3.heap.size<wr.heap.size:=uL c4
       have HP:=uU (show wr.ownsRow (wn.heap.size+2) 154 6 (x.c k,Value.slice avp (x.c k).prs.length kvp).2 (x.c k,Value.slice avp (x.c k).prs.length kvp).1.prs.length ((x.c k,Value.slice avp (x.c k).prs.length kvp).1.prs.flatMap fP) by
        have:=uH hown;rw[List.take_length] at this;exact this)
       have ZN:=uU (show(x.c k,Value.slice avp (x.c k).prs.length kvp).1=x.cells[k] from(Hp.c_eq x k hlt).symm);have h67:w6.heap.size<=wn.heap.size+2:=by have:=(uH hcs).on.size;omega
       have h6r:w6.heap.size<=wr.heap.size:=by omega
       have hvn:=uU (show ∀q,(Value.slice avc k kvc).ownBlock=some q->q<wn.heap.size+2 from λq e=>by have:=((uH hcs).own.lt q e).2;omega);have hvp:=uU (show ∀y,y∈L->∀q,y.2.ownBlock=some q->q<wn.heap.size+2 from λy hy q e=>by have:=(((uH hcs).prs y hy).1.lt q e).2;omega);have nq:¬wn.heap.size+1=w3.heap.size:=by have:=(uH hcs).on.size;omega
       have nq2:¬w3.heap.size=wn.heap.size+1:=by have:=(uH hcs).on.size;omega
       clear hpt hp;go_wp2_with (at_builtin;refine wpList_append_lies _ rfl _ _ 31 rfl w6.heap.size 62 ic (.agg #[iv 0,iv 0,iv 0,iv 0,iv 0,iv 0,iv 0,.slice none 0 0]) 8 80 Tryz.underlying31 hic hc0 hc1 hc2 rfl (by decide) _ k (L.flatMap fC) rfl ((uH CS1).own.alloc _) _ 1 1 (fC (x.c k,Value.slice avp (x.c k).prs.length kvp)) rfl rfl ?c1 ?c2 (by decide) ?c3 ?c4 ?c5 _ rfl ?_)
       case c1=>
        intro j u hj
        match j,hj with
        | 0,hj=>simp [fC] at hj;subst hj;simp [go_sem]
        | 1,hj=>simp [fC] at hj;subst hj;simp [go_sem]
        | 2,hj=>simp [fC] at hj;subst hj;simp [go_sem]
        | 3,hj=>simp [fC] at hj;subst hj;simp [go_sem]
        | 4,hj=>simp [fC] at hj;subst hj;simp [go_sem]
        | 5,hj=>simp [fC] at hj;subst hj;simp [go_sem]
        | 6,hj=>simp [fC] at hj;subst hj;simp [go_sem]
        | 7,hj=>simp [fC] at hj;subst hj;simp [go_sem]
       case c2=>intro u hu;simp [fC] at hu;rcases hu with e | e | e | e | e | e | e | e <;> subst e <;> first | rfl
       case c3=>unfold maxLen;omega
       case c4=>omega
       case c5=>first | exact h6r | omega | (simp;omega)
       intro gb cap5 w5 hown5 hgrow hat hglt;have xb:=(Ext.refl wr).alloc (.cells #[iv (x.c k).st,iv (x.c k).kind,iv (x.c k).weak,iv (x.c k).last,iv (x.c k).born,iv (x.c k).color,iv (x.c k).to,.slice avp (x.c k).prs.length kvp] 62);have PU:=uU (CS.push (g:=gb) ((uH CS1).ext xb) hlt (uH ZN) hgrow hown5 rfl (by simpa using hat) (uQ (uH HP) (λq hq=>xb.block q ((uH HP).lt q hq).2)) h67 (uH hvn) (uH hvp));have eb:w5.heap[w3.heap.size]?=wr.heap[w3.heap.size]?:=(hgrow.block w3.heap.size (Nat.lt_of_lt_of_le hbg2 xb.size) (λe=>by have:=((uH CS1).own.lt _ e.symm).1;have:=(uH CS1).lt;omega)).trans (xb.block _ hbg2);have d4:=(World.cell?_of_block (a:=⟨w3.heap.size,4,none⟩) eb).trans c4;have df:=(World.frozen?_of_block (a:=⟨w3.heap.size,4,none⟩) eb).trans cf;clear hown5 hgrow hat xb eb;go_wp2_with fail;go_roundw
       case rel=>exact⟨k+1,some ⟨gb,0,none⟩,cap5,_,hlt,by go_num,uH PU⟩
       case measure=>simp [intOf];omega
    ·have hk2:k=x.cells.length:=by omega
     subst hk2;have CSE:=uU (uH hcs);have OWn:=uU (show wn.ownsRow (w3.heap.size+1) 152 3 (.slice av x.regs.length kv) x.regs.length (x.regs.flatMap fW) from uQ (uH OW) (λq hq=>(uH CSE).on.block q ((uH OW).lt q hq).2 (by have:=((uH OW).lt q hq).1;omega)));have g8:=(uH CSE).bx.2.2.2.2.2.2.2.2.1;have f8:=(uH CSE).fz 8;have hbgn:w3.heap.size<wn.heap.size:=uL g8;have b8:=(uH CSE).ex.keep (uH BH).2.2.2.2.2.2.2.2.1;have Q0:=uU (show dW (wn.setCell ⟨w3.heap.size,8,none⟩ (.slice none 0 0)) w3.heap.size x (.slice av x.regs.length kv) (.slice avc x.cells.length kvc) (.slice none 0 0)/\Nf1 w3.heap.size (wn.setCell ⟨w3.heap.size,8,none⟩ (.slice none 0 0))/\uX (λq=>q=w3.heap.size) wn (wn.setCell ⟨w3.heap.size,8,none⟩ (.slice none 0 0)) from⟨(uH CSE).bx.set8 _,Nf1.set ⟨hbgn,(uH CSE).fz⟩ _ _,uX.setCell (S:=λq=>q=w3.heap.size) (uX.refl _ wn) (p:=⟨w3.heap.size,8,none⟩) rfl _⟩);clear hcs hk hlt;go_wp2_with fail;clear g8 f8 b8;go_loopw [64] (λi wr=>∃(k:Nat) (avg:Option Addr) (kvg:Nat),k<=x.gray.length/\i=.int .i64 k/\Hid (wr.ownsRow wn.heap.size 3 1 (.slice avg k kvg) k ((x.gray.take k).map iv))/\Hid (dW wr w3.heap.size x (.slice av x.regs.length kv) (.slice avc x.cells.length kvc) (.slice avg k kvg)/\Nf1 w3.heap.size wr/\uX (λq=>q=w3.heap.size) wn wr)) (λi _=>x.gray.length-(intOf i).toNat)
     case atStart=>exact⟨0,none,0,Nat.zero_le _,rfl,World.ownsRow_nil _ _ _ _,uH Q0⟩
     case round=>
      clear Q0;obtain⟨k,avg,kvg,hk,rfl,hown,hbx⟩:=hrel;have XR:Ext w3 wr:=(uH hbx).2.2.ext (uH CSE).ex (λq hq e=>by omega);by_cases hlt:k<x.gray.length
      ·obtain⟨bg,og,hag,p0⟩:∃bg og,ag=some ⟨bg,og,none⟩/\yQ w3 bg (og+k*1) x.gray[k]:=by
        obtain⟨ad,cap,e,_,hx⟩:=uH SG;simp only [Value.slice.injEq] at e;rw[e.1];exact hx k hlt
       subst hag;have p0:=XR.keep p0;rw[Nat.mul_one] at p0;have g8:=(uH hbx).1.2.2.2.2.2.2.2.2.1;have f8:=(uH hbx).2.1.2 8;have hbg2:w3.heap.size<wr.heap.size:=uL g8;have hwn:=(uH hbx).2.2.size;have hk0:(0:Int)<=(k:Int):=by omega
       have hk1:(k:Int)<(x.gray.length:Int):=by omega
       have ETK:=uU (show x.gray.take (k+1)=x.gray.take k++[x.gray[k]] by rw[List.take_succ_eq_append_getElem hlt]);obtain⟨y,ey⟩:∃y,y=x.gray[k]:=⟨_,rfl⟩;rw[<-ey] at p0 ETK;clear ey;go_wp2_with (at_builtin;refine wpList_append_lies _ rfl _ _ 32 rfl wn.heap.size 3 ii (iv 0) 1 8 Tryz.underlying32 hii hi0 hi1 hi2 rfl (by decide) _ k ((x.gray.take k).map iv) rfl ((uH hown).alloc _) _ 1 1 [iv y] rfl rfl ?c1 ?c2 (by decide) ?c3 ?c4 ?c5 _ rfl ?_)
       case c1=>
        intro j u hj
        match j,hj with
        | 0,hj=>simp at hj;subst hj;simp [go_sem]
       case c2=>intro u hu;simp at hu;subst hu;rfl
       case c3=>unfold maxLen;omega
       case c4=>omega
       case c5=>simp;omega
       intro gb cap5 w5 hown5 hgrow hat hglt;have xb:=(Ext.refl wr).alloc (.cells #[iv y] 3);have eb:w5.heap[w3.heap.size]?=wr.heap[w3.heap.size]?:=(hgrow.block w3.heap.size (Nat.lt_of_lt_of_le hbg2 xb.size) (λe=>by have:=((uH hown).lt _ e.symm).1;omega)).trans (xb.block _ hbg2);have g5:=(World.cell?_of_block (a:=⟨w3.heap.size,8,none⟩) eb).trans g8;have f5:=(World.frozen?_of_block (a:=⟨w3.heap.size,8,none⟩) eb).trans f8;have OW5:=uU (uQ (w':=w5.setCell ⟨w3.heap.size,8,none⟩ (.slice (some ⟨gb,0,none⟩) (k+1) cap5)) hown5 (λq hq=>Below.heap_setCell _ _ _ _ (λe=>by have h1:=(hown5.lt q hq).1;have e:q=w3.heap.size:=e;omega)))
       have HB:=uU (show dW (w5.setCell ⟨w3.heap.size,8,none⟩ (.slice (some ⟨gb,0,none⟩) (k+1) cap5)) w3.heap.size x (.slice av x.regs.length kv) (.slice avc x.cells.length kvc) (.slice (some ⟨gb,0,none⟩) (k+1) cap5)/\Nf1 w3.heap.size (w5.setCell ⟨w3.heap.size,8,none⟩ (.slice (some ⟨gb,0,none⟩) (k+1) cap5))/\uX (λq=>q=w3.heap.size) wn (w5.setCell ⟨w3.heap.size,8,none⟩ (.slice (some ⟨gb,0,none⟩) (k+1) cap5)) from
        ⟨((uH hbx).1.block eb).set8 _,(hY (uH hbx).2.1 eb (Nat.le_trans xb.size hgrow.size)).set _ _,by
         have on:=(uH hbx).2.2;refine uX.setCell (S:=λq=>q=w3.heap.size) ?_ (p:=⟨w3.heap.size,8,none⟩) rfl _;refine⟨hgrow.os.trans on.os,hgrow.tape.trans on.tape,hgrow.output.trans on.output,Nat.le_trans on.size (Nat.le_trans xb.size hgrow.size),λq hq hne=>?_⟩;have hq2:q<wr.heap.size:=Nat.lt_of_lt_of_le hq on.size;exact((hgrow.block q (Nat.lt_of_lt_of_le hq2 xb.size) (λe=>by have:=((uH hown).lt q e.symm).1;omega)).trans (xb.block q hq2)).trans (on.block q hq hne)⟩)
       clear hown5 hgrow hat xb eb;go_wp2_with fail;go_roundw
       case rel=>
        refine⟨k+1,some ⟨gb,0,none⟩,cap5,hlt,by go_num,?_,uH HB⟩;rw[uH ETK,List.map_append];refine uU ?_
        simpa using uH OW5
       case measure=>simp [intOf];omega
      ·have hk2:k=x.gray.length:=by omega
       subst hk2
       have FIN:=uU (show ∃ar kr ac kc vg br bc pb pa pk role,GAt w.heap.size wr w3.heap.size x ar kr ac kc vg br bc pb pa pk role from by
        obtain⟨br,bc,pb,pa,pk,role,h⟩:=GAt.start hz (B:=w.heap.size) (uH CSE) (uH OWn) (uH V6) h0 (by omega) (uH hbx).2.2 (uH hbx).1 (uH hbx).2.1 (by have:=uH hown;rw[List.take_length] at this;exact this);exact⟨_,_,_,_,_,br,bc,pb,pa,pk,role,h⟩)
       clear hown hbx;go_wp2_with fail;go_ret;exact⟨_,rfl,uH FIN,X3.trans XR⟩
def yZ(x:Hp)(y:Wd):Bool:=mkB x && (y.k == 2 && (x.c y.a.toNat).color == 0)
def a4y(x:Hp)(y:Wd):Hp:=if yZ x y=true then { x with cells:=x.cells.set y.a.toNat (tN (x.c y.a.toNat)),gray:=x.gray++[y.a] } else x
theorem GAt.setc[Inhabited uN]{i:Nat}{c':Cl}(h:GAt B w g x ar kr ac kc vg br bc pb pa pk role)(hi:i<x.cells.length)(hp:c'.prs=(x.c i).prs)(o:uX (λq=>q=bc) w w')(hs:S7 w' bc (i*8) c')(ho:∀k,(k<i*8\/i*8+7<=k)->w'.cell? ⟨bc,k,none⟩=w.cell? ⟨bc,k,none⟩)(nf:Nf1 bc w'):
  GAt B w' g { x with cells:=x.cells.set i c' } ar kr ac kc vg br bc pb pa pk role:=by
 have hn:0<x.cells.length:=by omega
 have far:∀q,q<w.heap.size->role q≠3->w'.heap[q]?=w.heap[q]?:=λq hq hr=>o.block q hq (λe=>hr (by rw[e];exact h.sp.c hn))
 have hl:({ x with cells:=x.cells.set i c' }:Hp).cells.length=x.cells.length:=by simp
 have hc:=Hp.c_set x i c' hi
 have hpr:∀q,(({ x with cells:=x.cells.set i c' }:Hp).c q).prs=(x.c q).prs:=λq=>by
  rw[hc q];by_cases e:q=i
  ·rw[if_pos e,hp,e]
  ·rw[if_neg e]
 have fg:=far g h.nf.1 (by rw[h.sp.g];omega);have pf:∀q,q<x.cells.length->0<pk q->w'.heap[pb q]?=w.heap[pb q]?:=λq hq hl=>far (pb q) (h.rw.pl q hq hl).2.1.1 (by rw[h.sp.p q hq hl];omega)
 refine⟨?_,hY h.nf fg o.size,h.lo,h.ha,λ_=>h.hc hn,⟨λk hk=>?_,λq hq=>?_,λq hq=>?_,λq hq k hk=>?_,λq hq hlq=>?_,λhr=>⟨hY (h.rw.nr hr).1 (far br (h.rw.nr hr).1.1 (by rw[h.sp.r hr];omega)) o.size,(h.rw.nr hr).2⟩,λ_=>⟨nf,(h.rw.nc hn).2⟩,λ_=>h.rw.d hn,λq q' hq hq' hne h1 h2=>?_,λq hq=>?_⟩,h.gr.block (λq hq=>far q (h.gr.lt q hq).2 (by rw[h.sp.y q hq];omega)),⟨h.sp.g,h.sp.r,λ_=>h.sp.c hn,h.sp.y,λq hq hlq=>?_⟩,by rw[hl];exact h.kl,h.pr.of (λq hq h1=>far q hq (by rw[h1];omega)) (λ_ _ h=>h),λhk=>(h.cc hk).cells rfl nf (λj v _ hv=>?_)⟩
 ·rw[hl];exact(h.bx.block fg)
 ·exact(h.rw.r k hk).of λj _=>World.cell?_of_block (a:=⟨br,_,none⟩) (far br (h.rw.nr (by have:k<x.regs.length:=hk;omega)).1.1 (by rw[h.sp.r (by have:k<x.regs.length:=hk;omega)];omega))
 ·rw[hl] at hq;rw[hc q];by_cases e:q=i
  ·subst e;rw[if_pos rfl];exact hs
  ·rw[if_neg e];exact(h.rw.s q hq).of λj hj=>ho _ (by omega)
 ·rw[hl] at hq;rw[hpr q,ho _ (by omega)];exact h.rw.p7 q hq
 ·rw[hl] at hq;have e2:(({ x with cells:=x.cells.set i c' }:Hp).c q).p k=(x.c q).p k:=by simp only [Cl.p,hpr q]
  rw[hpr q] at hk;rw[e2];exact(h.rw.p q hq k hk).of λj _=>World.cell?_of_block (a:=⟨pb q,_,none⟩) (pf q hq (h.rw.pw hq (by omega)))
 ·rw[hl] at hq;obtain⟨a1,a2,a3⟩:=h.rw.pl q hq hlq;exact⟨a1,a0f a2 (pf q hq hlq) o.size,a3⟩
 ·rw[hl] at hq hq';exact h.rw.dp q q' hq hq' hne h1 h2
 ·rw[hl] at hq;rw[hpr q];exact h.rw.kp q hq
 ·rw[hl] at hq;exact h.sp.p q hq hlq
 ·by_cases e:j<i*8\/i*8+7<=j
  ·exact⟨v,(ho j e).trans hv⟩
  ·have:=hs.some (j-i*8) (by omega);rw[show i*8+(j-i*8)=j by omega] at this;exact this
theorem GAt.push[Inhabited uN]{i:Int}{gb go cap:Nat}(h:GAt B W g x ar kr ac kc vg br bc pb pa pk role)(hg:W.grownBy w5 vg.ownBlock)(h5:Grw w5 B (.slice (some ⟨gb,go,none⟩) (x.gray.length+1) cap) (x.gray++[i]))(hat:vg.ownBlock=some gb\/gb=W.heap.size):
  GAt B (w5.setCell ⟨g,8,none⟩ (.slice (some ⟨gb,go,none⟩) (x.gray.length+1) cap)) g { x with gray:=x.gray++[i] } ar kr ac kc (.slice (some ⟨gb,go,none⟩) (x.gray.length+1) cap) br bc pb pa pk (λq=>if q=gb then 4 else role q):=by
 have hgb:∀q,q<W.heap.size->role q≠4->q≠gb:=λq hq hr e=>by
  rcases hat with a | a
  ·exact hr (by rw[e];exact h.sp.y gb a)
  ·omega
 have far:∀q,q<W.heap.size->role q≠4->w5.heap[q]?=W.heap[q]?:=λq hq hr=>hg.block q hq (λe=>hr (h.sp.y q e.symm))
 have hb:=h.nf.1;have rb:role g≠4:=by rw[h.sp.g];omega
 have fb:=far g hb rb;have nbg:=hgb g hb rb;have far2:∀q,q<W.heap.size->role q≠4->q≠g->(w5.setCell ⟨g,8,none⟩ (.slice (some ⟨gb,go,none⟩) (x.gray.length+1) cap)).heap[q]?=W.heap[q]?:=λq hq hr hne=>(Below.heap_setCell _ _ _ _ hne).trans (far q hq hr)
 have hsz:W.heap.size<=(w5.setCell ⟨g,8,none⟩ (.slice (some ⟨gb,go,none⟩) (x.gray.length+1) cap)).heap.size:=by have:=hg.size;simpa [World.setCell] using this
 have rw2:=h.rw.same hsz (λhl=>far2 br (h.rw.nr hl).1.1 (by rw[h.sp.r hl];omega) (λe=>by have h1:=h.sp.r hl;have h2:=h.sp.g;rw[e] at h1;omega)) (λhl=>far2 bc (h.rw.nc hl).1.1 (by rw[h.sp.c hl];omega) (λe=>by have h1:=h.sp.c hl;have h2:=h.sp.g;rw[e] at h1;omega)) (λq hq hl=>far2 (pb q) (h.rw.pl q hq hl).2.1.1 (by rw[h.sp.p q hq hl];omega) (λe=>by have h1:=h.sp.p q hq hl;have h2:=h.sp.g;rw[e] at h1;omega));refine⟨(h.bx.block fb).set8 _,(hY h.nf fb hg.size).set _ _,h.lo,h.ha,h.hc,⟨rw2.r,rw2.s,rw2.p7,rw2.p,rw2.pl,rw2.nr,rw2.nc,rw2.d,rw2.dp,rw2.kp⟩,?_,⟨?_,λhl=>?_,λhl=>?_,λq hq=>?_,λq hq hl=>?_⟩,h.kl,h.pr.of (λq hq h1=>far2 q hq (by rw[h1];omega) (λe=>by have h2:=h.sp.g;rw[e] at h1;omega)) (λq hq h1=>by(try dsimp only);rw[if_neg (hgb q hq (by rw[h1];omega))];exact h1),λhk=>(h.cc hk).block (if_neg (hgb bc (h.cc hk).nf.1 (by rw[(h.cc hk).ro];omega))) (far2 bc (h.cc hk).nf.1 (by rw[(h.cc hk).ro];omega) (λe=>by have h1:=(h.cc hk).ro;have h2:=h.sp.g;rw[e] at h1;omega)) hsz⟩
 ·exact h5.block (w':=w5.setCell ⟨g,8,none⟩ (.slice (some ⟨gb,go,none⟩) (x.gray.length+1) cap)) (λq hq=>Below.heap_setCell _ _ _ _ (λe=>nbg (by simp [Value.ownBlock] at hq;rw[hq];exact e.symm)))
 ·rw[if_neg nbg];exact h.sp.g
 ·rw[if_neg (hgb br (h.rw.nr hl).1.1 (by rw[h.sp.r hl];omega))];exact h.sp.r hl
 ·rw[if_neg (hgb bc (h.rw.nc hl).1.1 (by rw[h.sp.c hl];omega))];exact h.sp.c hl
 ·simp [Value.ownBlock] at hq;rw[if_pos hq.symm]
 ·rw[if_neg (hgb (pb q) (h.rw.pl q hq hl).2.1.1 (by rw[h.sp.p q hq hl];omega))];exact h.sp.p q hq hl
theorem a7k(x:Hp)(b:Nat)(w:World)(c5:w.cell? ⟨b,5,none⟩=some (iv x.phase)):
  Calls Tryz.prog 250 #[.pointer (some ⟨b,0,none⟩)] w λe w'=>e=.returned (.bool (mkB x))/\w'=w:=by
 cases q:(x.phase == 1)
 ·have E:=uU (show mkB x=(x.phase == 2) by simp [mkB,q]);go_enter Tryz.func250,Tryz.ntmps250;go_wp2_with fail;go_ret;exact⟨by rw[uH E];rfl,rfl⟩
 ·have E:=uU (show mkB x=true by simp [mkB,q]);go_enter Tryz.func250,Tryz.ntmps250;go_wp2_with fail;go_ret;exact⟨by rw[uH E];rfl,rfl⟩
theorem b1m[Inhabited uN](y:Wd)(w:World)(h:GAt B w g x ar kr ac kc (.slice ag x.gray.length kg) br bc pb pa pk role)(hy:y.k=2->0<=y.a/\y.a<x.cells.length)(n2:x.cells.length<=8000)(n4:x.gray.length<=8000)(a:World)(ha:a.heap.size<=B)(hx:Ext a w)(hB:B<=w.heap.size):
  Calls Tryz.prog 232 #[.pointer (some ⟨g,0,none⟩),y.v] w λe w'=>e=.returned (.bool (yZ x y))/\Hid (∃ag' kg' role',GAt B w' g (a4y x y) ar kr ac kc (.slice ag' (a4y x y).gray.length kg') br bc pb pa pk role')/\Ext a w'/\Hid (∀q,q<w.heap.size->q≠g->q≠bc->(∀b o n,ag=some ⟨b,o,n⟩->b≠q)->w'.heap[q]?=w.heap[q]?):=by
 obtain⟨w1,hw1⟩:∃W,W=w.alloc (.cells #[iv y.k,iv y.n,iv y.a] 152):=⟨_,rfl⟩;have xa:Ext w w1:=by rw[hw1];exact(Ext.refl w).alloc _
 have FR1:=uU (show ∀n q,q<w.heap.size->(w1.drewN n).heap[q]?=w.heap[q]? from λn q hq=>(xa.trans ((Ext.refl w1).drewN n)).block q hq);have H:=uU (h.ext xa);have hgw:g<w.heap.size:=uL h.bx.1;have X1:=uU (hx.trans xa);have d5:=H.bx.2.2.2.2.2.1;have y0:w1.cell? ⟨w.heap.size,0,none⟩=some (iv y.k):=by rw[hw1];simp [go_sem]
 have y2:w1.cell? ⟨w.heap.size,2,none⟩=some (iv y.a):=by rw[hw1];simp [go_sem]
 have hw1s:w.heap.size<w1.heap.size:=uL y0;have MK:=uU (λn r (hr:mkB x=r)=>show Calls Tryz.prog 250 #[.pointer (some ⟨g,0,none⟩)] (w1.drewN n) (λe w'=>e=.returned (.bool r)/\w'=w1.drewN n) from hr ▸ a7k x g (w1.drewN n) (((Ext.refl w1).drewN n).keep d5));cases q1:mkB x
 ·have E:=uU (show yZ x y=false/\a4y x y=x by simp [a4y,yZ,q1]);clear h d5;go_enter Tryz.func232,Tryz.ntmps232;go_wp2_with fail;rw[<-hw1];clear hw1;go_quiet ((go_at_call 250;exact Calls.quiet_of_same (MK _ _ q1)));go_wp2_with fail;go_ret;exact⟨by rw[E.1];rfl,by rw[E.2];exact⟨_,_,_,H.ext ((Ext.refl w1).drewN _)⟩,X1.drewN _,λq hq _ _ _=>uH FR1 _ q hq⟩
 ·cases q2:(y.k == 2)
  ·have E:=uU (show yZ x y=false/\a4y x y=x by simp [a4y,yZ,q2]);have q2n:(y.k != 2)=true:=by simpa using q2
   clear h d5;go_enter Tryz.func232,Tryz.ntmps232;go_wp2_with fail;rw[<-hw1];clear hw1;go_quiet ((go_at_call 250;exact Calls.quiet_of_same (MK _ _ q1)));go_wp2_with fail;go_ret;exact⟨by rw[E.1];rfl,by rw[E.2];exact⟨_,_,_,H.ext ((Ext.refl w1).drewN _)⟩,X1.drewN _,λq hq _ _ _=>uH FR1 _ q hq⟩
  ·have q2n:(y.k != 2)=false:=by simpa using q2
   obtain⟨i,hi⟩:∃i:Nat,y.a=(i:Int):=⟨y.a.toNat,by have:=(hy (by simpa using q2)).1;omega⟩;have hin:i<x.cells.length:=by have:=(hy (by simpa using q2)).2;omega
   have hn:0<x.cells.length:=by omega
   have hi2:y.a.toNat=i:=by omega
   rw[hi] at y2;have d4:=H.bx.2.2.2.2.1;rw[H.hc hn] at d4;have s5:=(H.rw.s i hin).2.2.2.2.2.1;have f5:=(H.rw.nc hn).1.2 (i*8+5);have hbc:bc<w1.heap.size:=uL s5;have hbcw:bc<w.heap.size:=(h.rw.nc hn).1.1;have i0:(0:Int)<=(i:Int):=by omega
   have i1:(i:Int)<(x.cells.length:Int):=by omega
   cases q3:((x.c i).color == 0)
   ·have E:=uU (show yZ x y=false/\a4y x y=x by simp [a4y,yZ,hi2,q3]);have q3n:((x.c i).color != 0)=true:=by simpa using q3
    clear h d5 hi hi2;go_enter Tryz.func232,Tryz.ntmps232;go_wp2_with fail;rw[<-hw1];clear hw1;go_quiet ((go_at_call 250;exact Calls.quiet_of_same (MK _ _ q1)));go_wp2_with fail;go_ret;exact⟨by rw[E.1];rfl,by rw[E.2];exact⟨_,_,_,H.ext ((Ext.refl w1).drewN _)⟩,X1.drewN _,λq hq _ _ _=>uH FR1 _ q hq⟩
   ·have q3n:((x.c i).color != 0)=false:=by simpa using q3
    have E:=uU (show yZ x y=true/\a4y x y={ x with cells:=x.cells.set i (tN (x.c i)),gray:=x.gray++[(i:Int)] } by
     have hb:yZ x y=true:=by simp [yZ,hi2,q1,q2,q3]
     refine⟨hb,?_⟩;unfold a4y;rw[if_pos hb,hi2,hi])
    clear h d5 hi hi2;go_enter Tryz.func232,Tryz.ntmps232;go_wp2_with fail;rw[<-hw1];clear hw1;go_quiet ((go_at_call 250;exact Calls.quiet_of_same (MK _ _ q1)));go_wp2_with fail
    go_region
    all_goals
     go_wp2_with fail;obtain⟨w2,hw2⟩:∃W,W=(w1.drewN (nq+1)).setCell ⟨bc,i*8+5,none⟩ (.int .i64 1):=⟨_,rfl⟩;have HD:=uU (H.ext ((Ext.refl w1).drewN (nq+1)))
     have G2:=uU (show GAt B w2 g { x with cells:=x.cells.set i (tN (x.c i)) } ar kr ac kc (.slice ag x.gray.length kg) br bc pb pa pk role by
      rw[hw2];refine HD.setc hin rfl (uX.setCell (S:=λq=>q=bc) (uX.refl _ (w1.drewN (nq+1))) (p:=⟨bc,i*8+5,none⟩) rfl _) ?_ (λk hk=>uC _ (.inr (by omega))) ((HD.rw.nc hn).1.set _ _);obtain⟨a0,a1,a2,a3,a4,a5,a6⟩:=HD.rw.s i hin;refine⟨?_,?_,?_,?_,?_,World.cell?_setCell_same _ _ _ a5,?_⟩
      ·rw[uC _ (.inr (by omega))];exact a0
      ·rw[uC _ (.inr (by omega))];exact a1
      ·rw[uC _ (.inr (by omega))];exact a2
      ·rw[uC _ (.inr (by omega))];exact a3
      ·rw[uC _ (.inr (by omega))];exact a4
      ·rw[uC _ (.inr (by omega))];exact a6)
     have X2:Ext a w2:=by rw[hw2];exact(X1.drewN _).setCell (show a.heap.size<=bc from Nat.le_trans ha (H.rw.nc hn).2) _
     have z2:w2.cell? ⟨w.heap.size,2,none⟩=some (iv i):=by
      rw[hw2,uC _ (.inl (by omega))];exact((Ext.refl w1).drewN (nq+1)).keep y2
     have c8:=G2.bx.2.2.2.2.2.2.2.2.1;have f8:=G2.nf.2 8;have hg2:g<w2.heap.size:=uL c8;have hB2:B<=w2.heap.size:=by have h1:w2.heap.size=w1.heap.size:=(by rw[hw2];simp [World.setCell]);omega
     have ng1:¬g=w.heap.size:=by omega
     have ng2:¬w.heap.size=g:=by omega
     obtain⟨ii,hii,hi0,hi1,hi2⟩:=info_parts b1g;have FR2:=uU (show ∀q,q<w.heap.size->q≠bc->w2.heap[q]?=w.heap[q]?/\q<w2.heap.size from λq hq hne=>⟨by rw[hw2,Below.heap_setCell _ _ _ _ hne];exact FR1 _ q hq,by have h1:w2.heap.size=w1.heap.size:=(by rw[hw2];simp [World.setCell]);omega⟩);rw[<-hw2];clear hw2 HD;have GRX:=uU (show ∀W,Ext w2 W->Grw W B (.slice ag x.gray.length kg) x.gray from λW e=>G2.gr.block (λq hq=>e.block q (G2.gr.lt q hq).2));go_region_law (refine c1u _ rfl _ _ 32 rfl ii (iv 0) B (.slice ag x.gray.length kg) x.gray Tryz.underlying32 hii hi0 hi1 hi2 rfl (by first | rfl | simp [Act.eval,Act.put]) (by first | exact GRX _ ((Ext.refl w2).alloc _) | exact GRX _ ((Ext.refl w2).alloc _).drew | exact GRX _ ((Ext.refl w2).drew.alloc _)) _ 1 i (by first | rfl | simp [Act.eval,Act.put];rfl) (by simp [go_sem]) (by omega) (by simp;omega) ?_;intro gb go cap w3 hown hgrow hat hglt;have xb:=Ext.trans ((Ext.refl w2).alloc (.cells #[iv i] 3)) ((Ext.refl (w2.alloc (.cells #[iv i] 3))).drew);have R:=uU ((G2.ext xb).push hgrow hown (by simpa using hat));have eb:w3.heap[g]?=w2.heap[g]?:=(hgrow.block g (by simp;omega) (λe=>by have h1:=G2.sp.y _ e.symm;have h2:=G2.sp.g;omega)).trans (xb.block g hg2);have e8:=(World.cell?_of_block (a:=⟨g,8,none⟩) eb).trans c8;have ff8:=(World.frozen?_of_block (a:=⟨g,8,none⟩) eb).trans f8;have X3:=uU (show Ext a (w3.setCell ⟨g,8,none⟩ (.slice (some ⟨gb,go,none⟩) (x.gray.length+1) cap)) from(Below.trans (X2.trans xb) ⟨hgrow.os,hgrow.tape,hgrow.output,hgrow.size,λk hk=>hgrow.block k (Nat.lt_of_lt_of_le hk (X2.trans xb).size) (λe=>by have:=(G2.gr.lt k e.symm).1;omega)⟩).setCell (Nat.le_trans ha G2.lo) _);have FR3:=uU (show ∀q,q<w.heap.size->q≠g->q≠bc->(∀b o n,ag=some ⟨b,o,n⟩->b≠q)->(w3.setCell ⟨g,8,none⟩ (.slice (some ⟨gb,go,none⟩) (x.gray.length+1) cap)).heap[q]?=w.heap[q]? from λq hq h1 h2 h3=>(Below.heap_setCell _ _ _ _ h1).trans ((hgrow.block q (by have:=(FR2 q hq h2).2;simp;omega) (λe=>by cases ag with | none=>simp [Value.ownBlock] at e | some ad=>obtain⟨b,o,n⟩:=ad;simp [Value.ownBlock] at e;exact h3 b o n rfl e.symm)).trans ((xb.block q (FR2 q hq h2).2).trans (FR2 q hq h2).1)));clear hown hgrow hat eb xb)
     all_goals
      go_wp2_with fail;go_ret;exact⟨by rw[E.1];rfl,by rw[E.2];exact⟨some ⟨gb,go,none⟩,cap,_,by rw[List.length_append];exact uH R⟩,X3,FR3⟩
theorem a5s[Inhabited uN](y:Wd)(w:World)(h:GAt B w g x ar kr ac kc (.slice ag x.gray.length kg) br bc pb pa pk role)(hy:y.k=2->0<=y.a/\y.a<x.cells.length)(n2:x.cells.length<=8000)(n4:x.gray.length<=8000)(a:World)(ha:a.heap.size<=B)(hx:Ext a w)(hB:B<=w.heap.size):
  Calls Tryz.prog 232 #[.pointer (some ⟨g,0,none⟩),y.v] w λe w'=>e=.returned (.bool (yZ x y))/\Hid (∃ag' kg' role',GAt B w' g (a4y x y) ar kr ac kc (.slice ag' (a4y x y).gray.length kg') br bc pb pa pk role')/\Ext a w':=
 (b1m y w h hy n2 n4 a ha hx hB).mono λ_ _ ⟨h1,h2,h3,_⟩=>⟨h1,h2,h3⟩
end Go.Proofs.YtddkhnclmeikfaaGreat
