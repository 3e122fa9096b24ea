import Derived.Test.YtddkhnclmeikfaaGreatRn
set_option maxRecDepth 100000
set_option maxHeartbeats 2000000
namespace Go.Proofs.YtddkhnclmeikfaaGreat
open Go.RowKit
attribute [local go_sem ↓] Go.wp_at_zero Go.wp_at_succ
variable{bn b kn hd B kr br i bx r bs bh:Nat}{w w':World}{x:Hp}{ar:Option Addr}{vf v4 v8 vk:Value}{F G:List Int}{cB cO pb pk role:Nat->Nat}{K Mt:List Nat}{pa ac:Nat->Option Addr}{P:Program}
theorem a8a:Tryz.zeroCells132.size=4018/\Tryz.zeroCells132[4015]?=some (iv 0)/\Tryz.zeroCells132[4016]?=some (iv 0)/\Tryz.zeroCells132[4017]?=some (.slice none 0 0):=⟨by kernel_rfl,by kernel_rfl,by kernel_rfl,by kernel_rfl⟩
abbrev stZ(cs:Array Value)(v0 v1 v2 v3 v4 v5 v6 v7 v8 v9 v10 v11 v12 v13 v14:Value):Array Value:=(((((((((((((((cs.setIfInBounds 0 v0).setIfInBounds 1 v1).setIfInBounds 2 v2).setIfInBounds 3 v3).setIfInBounds 4 v4).setIfInBounds 5 v5).setIfInBounds 6 v6).setIfInBounds 7 v7).setIfInBounds 8 v8).setIfInBounds 9 v9).setIfInBounds 10 v10).setIfInBounds 11 v11).setIfInBounds 12 v12).setIfInBounds 13 v13).setIfInBounds 14 v14)
theorem stZ_at(cs:Array Value)(v0 v1 v2 v3 v4 v5 v6 v7 v8 v9 v10 v11 v12 v13 v14:Value)(s0:cs.size=4018)(s1:cs[4015]?=some (iv 0))(s2:cs[4016]?=some (iv 0))(s3:cs[4017]?=some (.slice none 0 0)):(stZ cs v0 v1 v2 v3 v4 v5 v6 v7 v8 v9 v10 v11 v12 v13 v14).size=4018/\
   ((stZ cs v0 v1 v2 v3 v4 v5 v6 v7 v8 v9 v10 v11 v12 v13 v14)[0]?=some v0/\(stZ cs v0 v1 v2 v3 v4 v5 v6 v7 v8 v9 v10 v11 v12 v13 v14)[1]?=some v1/\(stZ cs v0 v1 v2 v3 v4 v5 v6 v7 v8 v9 v10 v11 v12 v13 v14)[2]?=some v2/\(stZ cs v0 v1 v2 v3 v4 v5 v6 v7 v8 v9 v10 v11 v12 v13 v14)[3]?=some v3/\(stZ cs v0 v1 v2 v3 v4 v5 v6 v7 v8 v9 v10 v11 v12 v13 v14)[4]?=some v4/\(stZ cs v0 v1 v2 v3 v4 v5 v6 v7 v8 v9 v10 v11 v12 v13 v14)[5]?=some v5/\(stZ cs v0 v1 v2 v3 v4 v5 v6 v7 v8 v9 v10 v11 v12 v13 v14)[6]?=some v6/\(stZ cs v0 v1 v2 v3 v4 v5 v6 v7 v8 v9 v10 v11 v12 v13 v14)[7]?=some v7/\(stZ cs v0 v1 v2 v3 v4 v5 v6 v7 v8 v9 v10 v11 v12 v13 v14)[8]?=some v8/\(stZ cs v0 v1 v2 v3 v4 v5 v6 v7 v8 v9 v10 v11 v12 v13 v14)[9]?=some v9/\(stZ cs v0 v1 v2 v3 v4 v5 v6 v7 v8 v9 v10 v11 v12 v13 v14)[10]?=some v10/\(stZ cs v0 v1 v2 v3 v4 v5 v6 v7 v8 v9 v10 v11 v12 v13 v14)[11]?=some v11/\(stZ cs v0 v1 v2 v3 v4 v5 v6 v7 v8 v9 v10 v11 v12 v13 v14)[12]?=some v12/\(stZ cs v0 v1 v2 v3 v4 v5 v6 v7 v8 v9 v10 v11 v12 v13 v14)[13]?=some v13/\(stZ cs v0 v1 v2 v3 v4 v5 v6 v7 v8 v9 v10 v11 v12 v13 v14)[14]?=some v14)/\
   (stZ cs v0 v1 v2 v3 v4 v5 v6 v7 v8 v9 v10 v11 v12 v13 v14)[4015]?=some (iv 0)/\(stZ cs v0 v1 v2 v3 v4 v5 v6 v7 v8 v9 v10 v11 v12 v13 v14)[4016]?=some (iv 0)/\(stZ cs v0 v1 v2 v3 v4 v5 v6 v7 v8 v9 v10 v11 v12 v13 v14)[4017]?=some (.slice none 0 0):=by
 unfold stZ;exact⟨by simp [s0],by simp [s0],by simp [s1],by simp [s2],by simp [s3]⟩
abbrev ndp(bn i:Nat):Value:=.pointer (some ⟨bn,i*2,none⟩)
structure SSep(x:Hp)(role:Nat->Nat)(b br:Nat)(cB:Nat->Nat)(bn:Nat)(pb pk:Nat->Nat)(vf vk:Value):Prop where
 b:role b=0
 n:role bn=1
 r:0<x.regs.length->role br=2
 c:∀q,q<x.cells.length->role (cB q)=3
 f:∀q,vf.ownBlock=some q->role q=4
 k:∀q,vk.ownBlock=some q->role q=5
 p:∀q,q<x.cells.length->0<pk q->role (pb q)=6+q
structure RAt(w:World)(b bn hd:Nat)(G:List Int):Prop where
 h0:hd<4000
 hl:G.length<=4000
 r0:w.cell? ⟨b,4015,none⟩=some (iv hd)
 r1:w.cell? ⟨b,4016,none⟩=some (iv G.length)
 rg:∀i (hi:i<G.length),w.cell? ⟨b,15+(hd+i) % 4000,none⟩=some (ndp bn G[i].toNat)
 ro:∀j,j<4000->∃v,w.cell? ⟨b,15+j,none⟩=some v
def NdB(w:World)(bn kn:Nat):Prop:=bn<w.heap.size/\∀j,j<kn*2->yZ w bn j
theorem NdB.of(h:NdB w bn kn)(e:w'.heap[bn]?=w.heap[bn]?)(hs:w.heap.size<=w'.heap.size):NdB w' bn kn:=
 ⟨Nat.lt_of_lt_of_le h.1 hs,λj hj=>by
  obtain⟨⟨v,hv⟩,hf⟩:=h.2 j hj;exact⟨⟨v,(World.cell?_of_block (a:=⟨bn,j,none⟩) e).trans hv⟩,(World.frozen?_of_block (a:=⟨bn,j,none⟩) e).trans hf⟩⟩
structure SB(B:Nat)(w:World)(b:Nat)(x:Hp)(ar:Option Addr)(kr:Nat)(v4 v8:Value)(br:Nat)(cB cO:Nat->Nat)(bn:Nat)(kn hd:Nat)(vf:Value)(F:List Int)(vk:Value)(K:List Nat):Prop where
 bx:dY w b x (.slice ar x.regs.length kr) v4 v8
 ha:0<x.regs.length->ar=some ⟨br,0,none⟩
 n13:w.cell? ⟨b,13,none⟩=some (.slice (some ⟨bn,0,none⟩) x.cells.length kn)
 nd:∀i,i<x.cells.length->w.cell? ⟨bn,i*2,none⟩=some (iv i)/\w.cell? ⟨bn,i*2+1,none⟩=some (.pointer (some ⟨cB i,cO i,none⟩))
 fr:eX w B b 14 vf F
 rg:RAt w b bn hd x.gray
 k0:w.cell? ⟨b,4017,none⟩=some vk
 kp:w.ownsRow B 126 1 vk K.length (K.map (ndp bn))
 nb:Nf1 b w
 lo:B<=b/\B<=bn/\NdB w bn kn
structure SAt[Inhabited uZ](B:Nat)(w:World)(b:Nat)(x:Hp)(ar:Option Addr)(kr:Nat)(v4 v8:Value)(br:Nat)(cB cO:Nat->Nat)(bn:Nat)(pb:Nat->Nat)(pa:Nat->Option Addr)(pk:Nat->Nat)(kn hd:Nat)(vf:Value)(F:List Int)(vk:Value)(K:List Nat)(role:Nat->Nat):Prop where
 sb:SB B w b x ar kr v4 v8 br cB cO bn kn hd vf F vk K
 rw:Rwn B w x br cB cO pb pa pk
 sp:SSep x role b br cB bn pb pk vf vk
 pr:Prt w role
theorem b9n(a:Nat):((a:Int).tmod 4000)=((a % 4000:Nat):Int):=by
 rw[Int.tmod_eq_emod_of_nonneg (by omega)];omega
theorem RAt.of(h:RAt w b bn hd G)(e:∀o,15<=o->o<4017->w'.cell? ⟨b,o,none⟩=w.cell? ⟨b,o,none⟩):RAt w' b bn hd G:=
 ⟨h.h0,h.hl,(e 4015 (by omega) (by omega)).trans h.r0,(e 4016 (by omega) (by omega)).trans h.r1,λi hi=>(e _ (by omega) (by have:(hd+i) % 4000<4000:=Nat.mod_lt _ (by omega);omega)).trans (h.rg i hi),λj hj=>let ⟨v,q⟩:=h.ro j hj;⟨v,(e _ (by omega) (by omega)).trans q⟩⟩
theorem RAt.block(h:RAt w b bn hd G)(e:w'.heap[b]?=w.heap[b]?):RAt w' b bn hd G:=h.of λo _ _=>World.cell?_of_block (a:=⟨b,o,none⟩) e
theorem RAt.put{m:Nat}(h:RAt w b bn hd G)(hl:G.length<4000)(hm:m=(hd+G.length) % 4000):
  RAt ((w.setCell ⟨b,15+m,none⟩ (ndp bn i)).setCell ⟨b,4016,none⟩ (iv (G.length+1))) b bn hd (G++[(i:Int)]):=by
 have hm4:m<4000:=by rw[hm];exact Nat.mod_lt _ (by omega)
 refine⟨h.h0,by simp;omega,?_,?_,λk hk=>?_,λj hj=>?_⟩
 ·rw[uC _ (.inr (by omega)),uC _ (.inr (by omega))];exact h.r0
 ·have:(w.setCell ⟨b,15+m,none⟩ (ndp bn i)).cell? ⟨b,4016,none⟩=some (iv G.length):=by rw[uC _ (.inr (by omega))];exact h.r1
  rw[World.cell?_setCell_same _ _ _ this];simp
 ·have hk2:(hd+k) % 4000<4000:=Nat.mod_lt _ (by omega);rw[uC _ (.inr (by omega))];by_cases e:k=G.length
  ·subst e;obtain⟨v,hv⟩:=h.ro m hm4;rw[<-hm,World.cell?_setCell_same _ _ _ hv];simp
  ·have hk3:k<G.length:=by simp at hk;omega
   rw[uC _ (.inr (by have:=h.h0;omega)),h.rg k hk3];simp [hk3]
 ·rw[uC _ (.inr (by omega))];obtain⟨v,hv⟩:=h.ro j hj;exact cell?_setCell_some hv
theorem a1h(w:World)(p:Addr):w.drew.cell? p=w.cell? p:=World.cell?_of_block (a:=p) rfl
theorem SB.same(h:SB B w b x ar kr v4 v8 br cB cO bn kn hd vf F vk K)(hs:w.heap.size<=w'.heap.size)(hb:w'.heap[b]?=w.heap[b]?)(hn:w'.heap[bn]?=w.heap[bn]?)(hf:∀q,vf.ownBlock=some q->w'.heap[q]?=w.heap[q]?)(hk:∀q,vk.ownBlock=some q->w'.heap[q]?=w.heap[q]?):SB B w' b x ar kr v4 v8 br cB cO bn kn hd vf F vk K where
 bx:=h.bx.block hb
 ha:=h.ha
 n13:=(World.cell?_of_block (a:=⟨b,13,none⟩) hb).trans h.n13
 nd:=λi hi=>⟨(World.cell?_of_block (a:=⟨bn,_,none⟩) hn).trans (h.nd i hi).1,(World.cell?_of_block (a:=⟨bn,_,none⟩) hn).trans (h.nd i hi).2⟩
 fr:=⟨(World.cell?_of_block (a:=⟨b,14,none⟩) hb).trans h.fr.hd,(World.frozen?_of_block (a:=⟨b,14,none⟩) hb).trans h.fr.hf,uN h.fr.own hf,h.fr.apart⟩
 rg:=h.rg.block hb
 k0:=(World.cell?_of_block (a:=⟨b,4017,none⟩) hb).trans h.k0
 kp:=uN h.kp hk
 nb:=cU h.nb hb hs
 lo:=⟨h.lo.1,h.lo.2.1,h.lo.2.2.of hn hs⟩
theorem SAt.ext[Inhabited uZ](h:SAt B w b x ar kr v4 v8 br cB cO bn pb pa pk kn hd vf F vk K role)(e:Ext w w'):SAt B w' b x ar kr v4 v8 br cB cO bn pb pa pk kn hd vf F vk K role:=
 ⟨h.sb.same e.size (e.block b h.sb.nb.1) (e.block bn h.sb.lo.2.2.1) (λq hq=>e.block q (h.sb.fr.own.lt q hq).2) (λq hq=>e.block q (h.sb.kp.lt q hq).2),h.rw.ext e,h.sp,h.pr.of (λq hq _=>e.block q hq) (λ_ _ h=>h)⟩
theorem SAt.push[Inhabited uZ]{W w5:World}{g cap:Nat}(h:SAt B W b x ar kr v4 v8 br cB cO bn pb pa pk kn hd vf F vk K role)(hg:W.grownBy w5 vk.ownBlock)(h5:w5.ownsRow B 126 1 (.slice (some ⟨g,0,none⟩) (K.length+1) cap) (K.length+1) (K.map (ndp bn)++[ndp bn i]))(hat:vk.ownBlock=some g\/g=W.heap.size):
  SAt B (w5.setCell ⟨b,4017,none⟩ (.slice (some ⟨g,0,none⟩) (K.length+1) cap)) b x ar kr v4 v8 br cB cO bn pb pa pk kn hd vf F (.slice (some ⟨g,0,none⟩) (K.length+1) cap) (K++[i]) (λq=>if q=g then 5 else role q):=by
 have hgb:∀q,q<W.heap.size->role q≠5->q≠g:=λq hq hr e=>by
  rcases hat with a | a
  ·exact hr (by rw[e];exact h.sp.k g a)
  ·omega
 have far:∀q,q<W.heap.size->role q≠5->w5.heap[q]?=W.heap[q]?:=λq hq hr=>hg.block q hq (λe=>hr (h.sp.k q e.symm))
 have hb:=h.sb.nb.1;have rb:role b≠5:=by rw[h.sp.b];omega
 have fb:=far b hb rb;have nbg:=hgb b hb rb;have far2:∀q,q<W.heap.size->role q≠5->q≠b->(w5.setCell ⟨b,4017,none⟩ (.slice (some ⟨g,0,none⟩) (K.length+1) cap)).heap[q]?=W.heap[q]?:=λq hq hr hne=>(Below.heap_setCell _ _ _ _ hne).trans (far q hq hr)
 have cb:∀o,o≠4017->(w5.setCell ⟨b,4017,none⟩ (.slice (some ⟨g,0,none⟩) (K.length+1) cap)).cell? ⟨b,o,none⟩=W.cell? ⟨b,o,none⟩:=λo ho=>(uC _ (.inr (λe=>ho e.symm))).trans (World.cell?_of_block (a:=⟨b,o,none⟩) fb)
 have hsz:W.heap.size<=(w5.setCell ⟨b,4017,none⟩ (.slice (some ⟨g,0,none⟩) (K.length+1) cap)).heap.size:=by have:=hg.size;simpa [World.setCell] using this
 have rn:role bn≠5:=by rw[h.sp.n];omega
 have nnb:bn≠b:=λe=>by have h1:=h.sp.n;have h2:=h.sp.b;rw[e] at h1;omega
 have fn:=far2 bn h.sb.lo.2.2.1 rn nnb;have ff:∀q,vf.ownBlock=some q->(w5.setCell ⟨b,4017,none⟩ (.slice (some ⟨g,0,none⟩) (K.length+1) cap)).heap[q]?=W.heap[q]?:=λq hq=>far2 q (h.sb.fr.own.lt q hq).2 (by rw[h.sp.f q hq];omega) (λe=>by have h1:=h.sp.f q hq;have h2:=h.sp.b;rw[e] at h1;omega)
 refine⟨⟨h.sb.bx.of λo ho=>cb o (by omega),h.sb.ha,(cb 13 (by omega)).trans h.sb.n13,λk hk=>⟨(World.cell?_of_block (a:=⟨bn,_,none⟩) fn).trans (h.sb.nd k hk).1,(World.cell?_of_block (a:=⟨bn,_,none⟩) fn).trans (h.sb.nd k hk).2⟩,⟨(cb 14 (by omega)).trans h.sb.fr.hd,?_,uN h.sb.fr.own ff,h.sb.fr.apart⟩,h.sb.rg.of λo _ h2=>cb o (by omega),?_,?_,?_,⟨h.sb.lo.1,h.sb.lo.2.1,h.sb.lo.2.2.of fn hsz⟩⟩,?_,?_,h.pr.of (λq hq h1=>far2 q hq (by rw[h1];omega) (λe=>by have h2:=h.sp.b;rw[e] at h1;omega)) (λq hq h1=>by(try dsimp only);rw[if_neg (hgb q hq (by rw[h1];omega))];exact h1)⟩
 ·rw[World.frozen?_setCell];exact(World.frozen?_of_block (a:=⟨b,14,none⟩) fb).trans h.sb.fr.hf
 ·exact World.cell?_setCell_same _ _ _ ((World.cell?_of_block (a:=⟨b,4017,none⟩) fb).trans h.sb.k0)
 ·have:=uN (w':=w5.setCell ⟨b,4017,none⟩ (.slice (some ⟨g,0,none⟩) (K.length+1) cap)) h5 (λq hq=>Below.heap_setCell _ _ _ _ (λe=>nbg (by simp [Value.ownBlock] at hq;rw[hq];exact e.symm)))
  simpa using this
 ·refine⟨Nat.lt_of_lt_of_le hb hsz,λj=>?_⟩;rw[World.frozen?_setCell];exact(World.frozen?_of_block (a:=⟨b,j,none⟩) fb).trans (h.sb.nb.2 j)
 ·exact h.rw.same hsz (λhl=>far2 br (h.rw.nr hl).1.1 (by rw[h.sp.r hl];omega) (λe=>by have h1:=h.sp.r hl;have h2:=h.sp.b;rw[e] at h1;omega)) (λq hq=>far2 (cB q) (h.rw.nc q hq).1.1 (by rw[h.sp.c q hq];omega) (λe=>by have h1:=h.sp.c q hq;have h2:=h.sp.b;rw[e] at h1;omega)) (λq hq hl=>far2 (pb q) (h.rw.pl q hq hl).2.1.1 (by rw[h.sp.p q hq hl];omega) (λe=>by have h1:=h.sp.p q hq hl;have h2:=h.sp.b;rw[e] at h1;omega))
 ·refine⟨?_,?_,λhl=>?_,λq hq=>?_,λq hq=>?_,λq hq=>?_,λq hq hl=>?_⟩
  ·rw[if_neg nbg];exact h.sp.b
  ·rw[if_neg (hgb bn h.sb.lo.2.2.1 rn)];exact h.sp.n
  ·rw[if_neg (hgb br (h.rw.nr hl).1.1 (by rw[h.sp.r hl];omega))];exact h.sp.r hl
  ·rw[if_neg (hgb (cB q) (h.rw.nc q hq).1.1 (by rw[h.sp.c q hq];omega))];exact h.sp.c q hq
  ·rw[if_neg (hgb q (h.sb.fr.own.lt q hq).2 (by rw[h.sp.f q hq];omega))];exact h.sp.f q hq
  ·simp [Value.ownBlock] at hq;rw[if_pos hq.symm]
  ·rw[if_neg (hgb (pb q) (h.rw.pl q hq hl).2.1.1 (by rw[h.sp.p q hq hl];omega))];exact h.sp.p q hq hl
def a3o(x:Hp)(i:Nat):Bool:=x.phase == 4 || (x.phase == 3 && decide ((i:Int)<x.hand))
theorem c5v(x:Hp)(b bn i:Nat)(w:World)(c5:w.cell? ⟨b,5,none⟩=some (iv x.phase))(c6:w.cell? ⟨b,6,none⟩=some (iv x.hand))(m0:w.cell? ⟨bn,i*2,none⟩=some (iv i)):
  Calls Tryz.prog 142 #[.pointer (some ⟨b,0,none⟩),ndp bn i] w λe w'=>e=.returned (.bool (a3o x i))/\Ext w w':=by
 cases q4:(x.phase == 4)
 ·cases q3:(x.phase == 3)
  ·have E:=uU (show a3o x i=false by simp [a3o,q4,q3]);go_enter Tryz.func142,Tryz.ntmps142;go_wp2_with fail;go_quiet (fail);go_wp2_with fail;go_ret;exact⟨by rw[uH E];rfl,Ext.drewN (Ext.refl _) _⟩
  ·have E:=uU (show a3o x i=decide ((i:Int)<x.hand) by simp [a3o,q4,q3]);go_enter Tryz.func142,Tryz.ntmps142;go_wp2_with fail;go_quiet (fail);go_wp2_with fail;go_ret;exact⟨by rw[uH E];rfl,Ext.drewN (Ext.refl _) _⟩
 ·have E:=uU (show a3o x i=true by simp [a3o,q4]);go_enter Tryz.func142,Tryz.ntmps142;go_wp2_with fail;go_quiet (fail);go_wp2_with fail;go_ret;exact⟨by rw[uH E];rfl,Ext.drewN (Ext.refl _) _⟩
theorem c8q(b bn hd i:Nat)(G:List Int)(w:World)(h:RAt w b bn hd G)(hn:Nf1 b w)(hl:G.length<4000):
  Calls Tryz.prog 141 #[.pointer (some ⟨b,15,none⟩),ndp bn i] w λe w'=>e=.returned (.tuple #[])/\RAt w' b bn hd (G++[(i:Int)])/\uX (λq=>q=b) w w'/\Nf1 b w'/\∀o,(o<15\/o=4015\/o=4017)->w'.cell? ⟨b,o,none⟩=w.cell? ⟨b,o,none⟩:=by
 have r0:=h.r0;have r1:=h.r1;have h0:=h.h0;obtain⟨u,ru⟩:=h.ro ((hd+G.length) % 4000) (Nat.mod_lt _ (by omega));have f0:=hn.2 (15+(hd+G.length) % 4000);have f1:=hn.2 4016;obtain⟨m,hm⟩:∃m,m=(hd+G.length) % 4000:=⟨_,rfl⟩;rw[<-hm] at ru f0;have hm4:m<4000:=by rw[hm];exact Nat.mod_lt _ (by omega)
 have hr:((hd:Int)+(G.length:Int)).tmod 4000=(m:Int):=by have:=b9n (hd+G.length);rw[<-hm] at this;simpa using this
 have m0:(0:Int)<=(m:Int):=by omega
 have m1:(m:Int)<4000:=by omega
 have HM:=uU hm;have H:=uU h;clear h hm;go_enter Tryz.func141,Tryz.ntmps141;go_wp2_with fail
 go_region
 all_goals
  go_wp2_with fail
  go_end0
  refine⟨rfl,(H.put hl HM).block rfl,(uX.setCell (S:=λq=>q=b) (uX.setCell (S:=λq=>q=b) (uX.refl _ w) (p:=⟨b,15+m,none⟩) rfl _) (p:=⟨b,4016,none⟩) rfl _).drew,⟨by have:=hn.1;simpa [World.setCell] using this,λj=>by rw[show ∀(W:World) (p:Addr),W.drew.frozen? p=W.frozen? p from λW p=>World.frozen?_of_block (a:=p) rfl,World.frozen?_setCell,World.frozen?_setCell];exact hn.2 j⟩,λo ho=>?_⟩;rw[a1h,uC _ (.inr (by omega)),uC _ (.inr (by omega))]
theorem SAt.ring[Inhabited uZ]{hd':Nat}(h:SAt B w b x ar kr v4 v8 br cB cO bn pb pa pk kn hd vf F vk K role)(r:RAt w' b bn hd' G)(o:uX (λq=>q=b) w w')(n:Nf1 b w')(c:∀k,(k<15\/k=4017)->w'.cell? ⟨b,k,none⟩=w.cell? ⟨b,k,none⟩):
  SAt B w' b { x with gray:=G } ar kr v4 v8 br cB cO bn pb pa pk kn hd' vf F vk K role:=by
 have far:∀q,q<w.heap.size->role q≠0->w'.heap[q]?=w.heap[q]?:=λq hq hr=>o.block q hq (λe=>hr (by rw[e];exact h.sp.b))
 have fn:=far bn h.sb.lo.2.2.1 (by rw[h.sp.n];omega);refine⟨⟨h.sb.bx.of λk hk=>c k (by omega),h.sb.ha,(c 13 (by omega)).trans h.sb.n13,λk hk=>⟨(World.cell?_of_block (a:=⟨bn,_,none⟩) fn).trans (h.sb.nd k hk).1,(World.cell?_of_block (a:=⟨bn,_,none⟩) fn).trans (h.sb.nd k hk).2⟩,⟨(c 14 (by omega)).trans h.sb.fr.hd,n.2 14,uN h.sb.fr.own (λq hq=>far q (h.sb.fr.own.lt q hq).2 (by rw[h.sp.f q hq];omega)),h.sb.fr.apart⟩,r,(c 4017 (by omega)).trans h.sb.k0,uN h.sb.kp (λq hq=>far q (h.sb.kp.lt q hq).2 (by rw[h.sp.k q hq];omega)),n,⟨h.sb.lo.1,h.sb.lo.2.1,h.sb.lo.2.2.of fn o.size⟩⟩,?_,⟨h.sp.b,h.sp.n,h.sp.r,h.sp.c,h.sp.f,h.sp.k,h.sp.p⟩,h.pr.of (λq hq h1=>far q hq (by rw[h1];omega)) (λ_ _ h=>h)⟩;have:=h.rw.same o.size (λhl=>far br (h.rw.nr hl).1.1 (by rw[h.sp.r hl];omega)) (λq hq=>far (cB q) (h.rw.nc q hq).1.1 (by rw[h.sp.c q hq];omega)) (λq hq hl=>far (pb q) (h.rw.pl q hq hl).2.1.1 (by rw[h.sp.p q hq hl];omega));exact⟨this.r,this.s,this.p7,this.p,this.pl,this.nr,this.nc,this.d,this.dp,this.dc,this.kp⟩
theorem SAt.start[Inhabited uZ]{w1 w2:World}{b2:Nat}{ac:Option Addr}{kc:Nat}{ag:Option Addr}{kg:Nat}{bc:Nat}{Z:Array Value}{T:TypeId}(hz:∀q,(default:uZ).z q=none)
  (ho:Opn w1 w2 x bx b2 bn x.cells.length x.cells.length ar kr ac kc ag kg vf F) (hrw:Rws B w1 x br bc pb pa pk) (hB:B<=w1.heap.size) (har:0<x.regs.length->ar=some ⟨br,0,none⟩) (hac:0<x.cells.length->ac=some ⟨bc,0,none⟩) (hr:0<x.regs.length)
  (hZ:Z.size=4018/\(Z[0]?=some (iv x.room)/\Z[1]?=some (iv x.used)/\Z[2]?=some (iv x.born)/\Z[3]?=some (.slice ar x.regs.length kr)/\Z[4]?=some (.slice ac x.cells.length kc)/\Z[5]?=some (iv x.phase)/\Z[6]?=some (iv x.hand)/\Z[7]?=some (iv x.sub)/\Z[8]?=some (.slice ag x.gray.length kg)/\Z[9]?=some (iv x.per)/\Z[10]?=some (iv x.start)/\Z[11]?=some (iv x.rounds)/\Z[12]?=some (iv x.forced)/\Z[13]?=some (.slice (some ⟨bn,0,none⟩) x.cells.length x.cells.length)/\Z[14]?=some vf)/\Z[4015]?=some (iv 0)/\Z[4016]?=some (iv 0)/\Z[4017]?=some (.slice none 0 0)) :
  ∃role,SAt B (w2.alloc (.cells Z T)) w2.heap.size { x with gray:=[] } ar kr (.slice ac x.cells.length kc) (.slice ag x.gray.length kg) br (λ_=>bc) (λq=>q*8) bn pb pa pk x.cells.length 0 vf F (.slice none 0 0) [] role:=by
 obtain⟨hZs,⟨z0,z1,z2,z3,z4,z5,z6,z7,z8,z9,z10,z11,z12,z13,z14⟩,y0,y1,y2⟩:=hZ;obtain⟨hb1,hb2,hb3,hb4⟩:=ho.hb;have xe:Ext w1 (w2.alloc (.cells Z T)):=ho.e.alloc _;have x2:Ext w2 (w2.alloc (.cells Z T)):=(Ext.refl w2).alloc _;have hnew:(w2.alloc (.cells Z T)).heap[w2.heap.size]?=some (.cells Z T):=heap_alloc_new w2 _;have cz:∀o,(w2.alloc (.cells Z T)).cell? ⟨w2.heap.size,o,none⟩=Z[o]?:=λo=>cell_of_row _ w2.heap.size o _ _ (0,0) hnew
 have nz:Nf1 w2.heap.size (w2.alloc (.cells Z T)):=⟨by simp,λj=>by simp [go_sem]⟩;have lr:=(hrw.nr hr).1.1;have lsz:=ho.e.size;have lp:∀q,q<x.cells.length->0<pk q->pb q<w1.heap.size:=λq hq hl=>(hrw.pl q hq hl).2.1.1
 have lf:∀q,vf.ownBlock=some q->bn+1<=q/\q<w2.heap.size:=λq hq=>ho.f.own.lt q hq
 refine⟨λq=>if q=w2.heap.size then 0 else if q=bn then 1 else if q=br then 2 else if 0<x.cells.length/\q=bc then 3 else
  (open Classical in if h:∃i,i<x.cells.length/\0<pk i/\pb i=q then 6+Classical.choose h else 4),⟨⟨(cz 0).trans z0,(cz 1).trans z1,(cz 2).trans z2,(cz 3).trans z3,(cz 4).trans z4,(cz 5).trans z5,(cz 6).trans z6,(cz 7).trans z7,(cz 8).trans z8,(cz 9).trans z9,(cz 10).trans z10,(cz 11).trans z11,(cz 12).trans z12⟩,har,(cz 13).trans z13,λi hi=>?_,⟨(cz 14).trans z14,nz.2 14,a3y (ho.f.own.alloc _) (by omega),λe=>by have:=(lf _ e).2;omega⟩,⟨by omega,by simp,(cz 4015).trans y0,(cz 4016).trans y1,λi hi=>by simp at hi,λj hj=>⟨Z[15+j]'(by omega),(cz _).trans (by simp)⟩⟩,(cz 4017).trans y2,World.ownsRow_nil _ _ _ _,nz,⟨by omega,by omega,by simp;omega,λj hj=>(ho.o j hj).ext x2⟩⟩,?_,?_,λq o h=>by rw[hz q] at h;cases h⟩
 ·obtain⟨bc',oc,e,p,q⟩:=ho.n i hi;have e2:=(hac (Nat.lt_of_le_of_lt (Nat.zero_le _) hi)).symm.trans e;simp only [Option.some.injEq,Addr.mk.injEq] at e2;obtain⟨rfl,rfl,_⟩:=e2;rw[Nat.zero_add] at q;exact⟨x2.keep p,x2.keep q⟩
 ·have:=(hrw.ext xe).rwn;exact⟨this.r,this.s,this.p7,this.p,this.pl,this.nr,this.nc,this.d,this.dp,this.dc,this.kp⟩
 ·refine⟨if_pos rfl,?_,λ_=>?_,λq hq=>?_,λq hq=>?_,λq hq=>by simp [Value.ownBlock] at hq,λq hq hl=>?_⟩
  ·rw[if_neg (by omega),if_pos rfl]
  ·rw[if_neg (by omega),if_neg (by omega),if_pos rfl]
  ·have hl:0<x.cells.length:=by have:q<x.cells.length:=hq;omega
   have l1:=(hrw.nc hl).1.1;have l2:=hrw.d hl;rw[if_neg (by omega),if_neg (by omega),if_neg (λe=>l2 e.symm),if_pos ⟨hl,rfl⟩]
  ·have l1:=lf q hq;rw[if_neg (by omega),if_neg (by omega),if_neg (by omega),if_neg (λe=>by have:=(hrw.nc e.1).1.1;omega),dif_neg (λ⟨i,h1,h2,h3⟩=>by have:=lp i h1 h2;omega)]
  ·have l1:=lp q hq hl;have l2:=(hrw.pl q hq hl).2.2.1;have hex:∃i,i<x.cells.length/\0<pk i/\pb i=pb q:=⟨q,hq,hl,rfl⟩;rw[if_neg (by omega),if_neg (by omega),if_neg l2.1,if_neg (λe=>l2.2 e.2),dif_pos hex];have sp:=Classical.choose_spec hex
   have:Classical.choose hex=q:=by
    rcases Nat.decEq (Classical.choose hex) q with h | h
    ·exact absurd sp.2.2 (hrw.dp _ q sp.1 hq h sp.2.1 hl)
    ·exact h
   rw[this]
theorem SAt.setc[Inhabited uZ]{c':Cl}
  (h:SAt B w b x ar kr v4 v8 br cB cO bn pb pa pk kn hd vf F vk K role) (hi:i<x.cells.length) (hp:c'.prs=(x.c i).prs) (o:uX (λq=>q=cB i) w w') (hs:S7 w' (cB i) (cO i) c') (ho:∀k,(k<cO i\/cO i+7<=k)->w'.cell? ⟨cB i,k,none⟩=w.cell? ⟨cB i,k,none⟩) (nf:Nf1 (cB i) w') :
  SAt B w' b { x with cells:=x.cells.set i c' } ar kr v4 v8 br cB cO bn pb pa pk kn hd vf F vk K role:=by
 have far:∀q,q<w.heap.size->role q≠3->w'.heap[q]?=w.heap[q]?:=λq hq hr=>o.block q hq (λe=>hr (by rw[e];exact h.sp.c i hi))
 have hl:({ x with cells:=x.cells.set i c' }:Hp).cells.length=x.cells.length:=by simp
 have hc:=Hp.c_set x i c' hi
 have hpr:∀q,(({ x with cells:=x.cells.set i c' }:Hp).c q).prs=(x.c q).prs:=λq=>by
  rw[hc q];by_cases e:q=i
  ·rw[if_pos e,hp,e]
  ·rw[if_neg e]
 have sb:=h.sb.same o.size (far b h.sb.nb.1 (by rw[h.sp.b];omega)) (far bn h.sb.lo.2.2.1 (by rw[h.sp.n];omega)) (λq hq=>far q (h.sb.fr.own.lt q hq).2 (by rw[h.sp.f q hq];omega)) (λq hq=>far q (h.sb.kp.lt q hq).2 (by rw[h.sp.k q hq];omega));have pf:∀q,q<x.cells.length->0<pk q->w'.heap[pb q]?=w.heap[pb q]?:=λq hq hl=>far (pb q) (h.rw.pl q hq hl).2.1.1 (by rw[h.sp.p q hq hl];omega)
 have cf:∀q,q<x.cells.length->cB q≠cB i->w'.heap[cB q]?=w.heap[cB q]?:=λq hq e=>o.block (cB q) (h.rw.nc q hq).1.1 e
 have ck:∀q,q<x.cells.length->q≠i->∀k,k<8->w'.cell? ⟨cB q,cO q+k,none⟩=w.cell? ⟨cB q,cO q+k,none⟩:=λq hq e k hk=>by
  by_cases e2:cB q=cB i
  ·rw[e2];rcases h.rw.dc q i hq hi e with d | d | d
   ·exact(d e2).elim
   ·exact ho _ (by omega)
   ·exact ho _ (by omega)
  ·exact World.cell?_of_block (a:=⟨cB q,_,none⟩) (cf q hq e2)
 have cn:∀q,q<x.cells.length->Nf1 (cB q) w':=λq hq=>by
  by_cases e2:cB q=cB i
  ·rw[e2];exact nf
  ·exact cU (h.rw.nc q hq).1 (cf q hq e2) o.size
 refine⟨⟨sb.bx,sb.ha,by rw[hl];exact sb.n13,λk hk=>sb.nd k (by rw[hl] at hk;exact hk),sb.fr,sb.rg,sb.k0,sb.kp,sb.nb,sb.lo⟩,⟨λk hk=>?_,λq hq=>?_,λq hq=>?_,λq hq k hk=>?_,λq hq hlq=>?_,λhr=>⟨cU (h.rw.nr hr).1 (far br (h.rw.nr hr).1.1 (by rw[h.sp.r hr];omega)) o.size,(h.rw.nr hr).2⟩,λq hq=>⟨cn q (by rw[hl] at hq;exact hq),(h.rw.nc q (by rw[hl] at hq;exact hq)).2⟩,λq hq=>h.rw.d q (by rw[hl] at hq;exact hq),λq q' hq hq' hne h1 h2=>?_,λq q' hq hq' hne=>h.rw.dc q q' (by rw[hl] at hq;exact hq) (by rw[hl] at hq';exact hq') hne,λq hq=>?_⟩,⟨h.sp.b,h.sp.n,h.sp.r,λq hq=>h.sp.c q (by rw[hl] at hq;exact hq),h.sp.f,h.sp.k,λq hq hlq=>?_⟩,h.pr.of (λq hq h1=>far q hq (by rw[h1];omega)) (λ_ _ h=>h)⟩
 ·exact(h.rw.r k hk).of λj _=>World.cell?_of_block (a:=⟨br,_,none⟩) (far br (h.rw.nr (by have:k<x.regs.length:=hk;omega)).1.1 (by rw[h.sp.r (by have:k<x.regs.length:=hk;omega)];omega))
 ·rw[hl] at hq;rw[hc q];by_cases e:q=i
  ·subst e;rw[if_pos rfl];exact hs
  ·rw[if_neg e];exact(h.rw.s q hq).of λj hj=>ck q hq e j (by omega)
 ·rw[hl] at hq;rw[hpr q];by_cases e:q=i
  ·subst e;rw[ho _ (by omega)];exact h.rw.p7 q hq
  ·rw[ck q hq e 7 (by omega)];exact h.rw.p7 q hq
 ·rw[hl] at hq;have e2:(({ x with cells:=x.cells.set i c' }:Hp).c q).p k=(x.c q).p k:=by simp only [Cl.p,hpr q]
  rw[hpr q] at hk;rw[e2];exact(h.rw.p q hq k hk).of λj _=>World.cell?_of_block (a:=⟨pb q,_,none⟩) (pf q hq (h.rw.pw hq (by omega)))
 ·rw[hl] at hq;obtain⟨a1,a2,a3,a4⟩:=h.rw.pl q hq hlq;exact⟨a1,a0f a2 (pf q hq hlq) o.size,⟨a3.1,λj hj=>a3.2 j (by rw[hl] at hj;exact hj)⟩,a4⟩
 ·rw[hl] at hq hq';exact h.rw.dp q q' hq hq' hne h1 h2
 ·rw[hl] at hq;rw[hpr q];exact h.rw.kp q hq
 ·rw[hl] at hq;exact h.sp.p q hq hlq
theorem b9o(hd:Int)(b n kn:Nat)(an:Option Addr)(w:World)(c6:w.cell? ⟨b,6,none⟩=some (iv hd))(c13:w.cell? ⟨b,13,none⟩=some (.slice an n kn))(h:(hd == (n:Int))=true):
  Calls Tryz.prog 236 #[.pointer (some ⟨b,0,none⟩)] w λe w'=>e=.returned (.pointer none)/\Ext w w':=by
 go_enter Tryz.func236,Tryz.ntmps236;go_wp2_with fail;go_quiet (fail);go_wp2_with fail;go_ret;exact⟨rfl,(Ext.refl _).drewN _⟩
theorem b9p(b n kn bn i:Nat)(w:World)(c6:w.cell? ⟨b,6,none⟩=some (iv i))(c13:w.cell? ⟨b,13,none⟩=some (.slice (some ⟨bn,0,none⟩) n kn))(hi:i<n):
  Calls Tryz.prog 236 #[.pointer (some ⟨b,0,none⟩)] w λe w'=>e=.returned (ndp bn i)/\Ext w w':=by
 have h:((i:Int) == (n:Int))=false:=by simp;omega
 have i0:(0:Int)<=(i:Int):=by omega
 have i1:(i:Int)<(n:Int):=by omega
 go_enter Tryz.func236,Tryz.ntmps236;go_wp2_with fail;go_quiet (fail);obtain⟨m1,rfl⟩:∃m,m=nq:=⟨_,rfl⟩;go_wp2_with fail;go_quiet (fail);go_wp2_with fail;go_ret;exact⟨rfl,((Ext.refl _).drewN _).drewN _⟩
theorem SAt.boxed[Inhabited uZ]{x':Hp}(h:SAt B w b x ar kr v4 v8 br cB cO bn pb pa pk kn hd vf F vk K role)(o:uX (λq=>q=b) w w')(nf:Nf1 b w')(hr:x'.regs=x.regs)(hc:x'.cells=x.cells)(hg:x'.gray=x.gray)(bx:dY w' b x' (.slice ar x.regs.length kr) v4 v8)(c:∀k,13<=k->w'.cell? ⟨b,k,none⟩=w.cell? ⟨b,k,none⟩):
  SAt B w' b x' ar kr v4 v8 br cB cO bn pb pa pk kn hd vf F vk K role:=by
 have far:∀q,q<w.heap.size->role q≠0->w'.heap[q]?=w.heap[q]?:=λq hq hn=>o.block q hq (λe=>hn (by rw[e];exact h.sp.b))
 have fn:=far bn h.sb.lo.2.2.1 (by rw[h.sp.n];omega);have cc:∀q,x'.c q=x.c q:=λq=>by simp only [Hp.c,hc]
 have rw2:=h.rw.same o.size (λhl=>far br (h.rw.nr hl).1.1 (by rw[h.sp.r hl];omega)) (λq hq=>far (cB q) (h.rw.nc q hq).1.1 (by rw[h.sp.c q hq];omega)) (λq hq hl=>far (pb q) (h.rw.pl q hq hl).2.1.1 (by rw[h.sp.p q hq hl];omega));refine⟨⟨by rw[hr];exact bx,by rw[hr];exact h.sb.ha,by rw[hc];exact(c 13 (by omega)).trans h.sb.n13,λk hk=>?_,⟨(c 14 (by omega)).trans h.sb.fr.hd,nf.2 14,uN h.sb.fr.own (λq hq=>far q (h.sb.fr.own.lt q hq).2 (by rw[h.sp.f q hq];omega)),h.sb.fr.apart⟩,?_,(c 4017 (by omega)).trans h.sb.k0,uN h.sb.kp (λq hq=>far q (h.sb.kp.lt q hq).2 (by rw[h.sp.k q hq];omega)),nf,⟨h.sb.lo.1,h.sb.lo.2.1,h.sb.lo.2.2.of fn o.size⟩⟩,?_,?_,h.pr.of (λq hq h1=>far q hq (by rw[h1];omega)) (λ_ _ h=>h)⟩
 ·rw[hc] at hk;exact⟨(World.cell?_of_block (a:=⟨bn,_,none⟩) fn).trans (h.sb.nd k hk).1,(World.cell?_of_block (a:=⟨bn,_,none⟩) fn).trans (h.sb.nd k hk).2⟩
 ·rw[hg];exact h.sb.rg.of λo h1 _=>c o (by omega)
 ·refine⟨λi hi=>?_,λq hq=>?_,λq hq=>?_,λq hq k hk=>?_,λq hq hl=>?_,?_,?_,?_,λq q' hq hq' hne h1 h2=>?_,λq q' hq hq' hne=>?_,λq hq=>?_⟩
  ·have hi2:i<x.regs.length:=by rw[<-hr];exact hi
   have e2:x'.regs[i]=x.regs[i]:=by simp [hr]
   rw[e2];exact rw2.r i hi2
  ·rw[hc] at hq;rw[cc];exact rw2.s q hq
  ·rw[hc] at hq;rw[cc];exact rw2.p7 q hq
  ·rw[hc] at hq;rw[cc] at hk ⊢;exact rw2.p q hq k hk
  ·rw[hc] at hq ⊢;exact rw2.pl q hq hl
  ·rw[hr];exact rw2.nr
  ·rw[hc];exact rw2.nc
  ·rw[hc];exact rw2.d
  ·rw[hc] at hq hq';exact rw2.dp q q' hq hq' hne h1 h2
  ·rw[hc] at hq hq';exact rw2.dc q q' hq hq' hne
  ·rw[hc] at hq;rw[cc];exact rw2.kp q hq
 ·refine⟨h.sp.b,h.sp.n,by rw[hr];exact h.sp.r,by rw[hc];exact h.sp.c,h.sp.f,h.sp.k,λq hq hl=>?_⟩;rw[hc] at hq;exact h.sp.p q hq hl
theorem b9u(w:World)(bn p q:Nat):(sameAddr ⟨bn,p,none⟩ ⟨bn,q,none⟩).run P w=.ok (p == q) w:=by
 have:((⟨bn,p,none⟩:Addr) == ⟨bn,q,none⟩)=(p == q):=by
  rw[Bool.eq_iff_iff];simp
 simp [sameAddr,this]
theorem c8t(w:World)(d:Nat)(t e:TypeId)(i:TypeInfo)(ht:P.underlying t=some (.pointer e))(hi:P.info? e=some i)(hs:i.size≠0)(bn p q:Nat):
  (Op.equalIn (d+1) t (.pointer (some ⟨bn,p,none⟩)) (.pointer (some ⟨bn,q,none⟩))).run P w=.ok (p == q) w:=by
 simp [Op.equalIn,run_underlying ht,sizeOf,typeInfo,hi,hs,b9u]
theorem c5z:(Tryz.prog.info? 124).map (λi=>i.size)=some 2:=by kernel_rfl
theorem c8u(bn p q:Nat)(w:World):(binOp .eql 126 (.pointer (some ⟨bn,p,none⟩)) (.pointer (some ⟨bn,q,none⟩))).run Tryz.prog w=.ok (.bool (p == q)) w:=by
 obtain⟨i,hi,hs⟩:∃i,Tryz.prog.info? 124=some i/\i.size=2:=by
  have:=c5z;cases h:Tryz.prog.info? 124 with
  | none=>rw[h] at this;simp at this
  | some i=>rw[h] at this;simp at this;exact⟨i,rfl,this⟩
 have he:(Op.equalIn 10000 126 (.pointer (some ⟨bn,p,none⟩)) (.pointer (some ⟨bn,q,none⟩))).run Tryz.prog w=.ok (p == q) w:=by
  exact c8t w 9999 126 124 i Tryz.underlying126 hi (by omega) bn p q
 simp only [binOp];simp [Op.equal,Op.maxDepth,he]
theorem ptr_no(bn p q:Nat)(w:World)(h:¬p=q):(binOp .eql 126 (.pointer (some ⟨bn,p,none⟩)) (.pointer (some ⟨bn,q,none⟩))).run Tryz.prog w=.ok (.bool false) w:=by
 rw[c8u,beq_eq_false_iff_ne.2 h]
theorem ptr_yes(bn p:Nat)(w:World):(binOp .eql 126 (.pointer (some ⟨bn,p,none⟩)) (.pointer (some ⟨bn,p,none⟩))).run Tryz.prog w=.ok (.bool true) w:=by
 rw[c8u];simp
theorem SAt.usedTo[Inhabited uZ](h:SAt B w b x ar kr v4 v8 br cB cO bn pb pa pk kn hd vf F vk K role)(u:Int):
  SAt B (w.setCell ⟨b,1,none⟩ (iv u)) b { x with used:=u } ar kr v4 v8 br cB cO bn pb pa pk kn hd vf F vk K role:=by
 refine h.boxed (x':={ x with used:=u }) (uX.setCell (S:=λq=>q=b) (uX.refl _ w) (p:=⟨b,1,none⟩) rfl _) (h.sb.nb.set _ _) rfl rfl rfl (h.sb.bx.set1 u) (λk hk=>uC _ (.inr (by omega)))
theorem SAt.subs[Inhabited uZ](h:SAt B w b x ar kr v4 v8 br cB cO bn pb pa pk kn hd vf F vk K role)(v:Int):
  SAt B (w.setCell ⟨b,7,none⟩ (iv v)) b { x with sub:=v } ar kr v4 v8 br cB cO bn pb pa pk kn hd vf F vk K role:=by
 refine h.boxed (x':={ x with sub:=v }) (uX.setCell (S:=λq=>q=b) (uX.refl _ w) (p:=⟨b,7,none⟩) rfl _) (h.sb.nb.set _ _) rfl rfl rfl (h.sb.bx.set7 v) (λk hk=>uC _ (.inr (by omega)))
theorem b9y(b bn hd:Nat)(w:World)(h:RAt w b bn hd []):
  Calls Tryz.prog 235 #[.pointer (some ⟨b,15,none⟩)] w λe w'=>e=.returned (.pointer none)/\Ext w w':=by
 have r1:=h.r1;simp only [List.length_nil] at r1;clear h;go_enter Tryz.func235,Tryz.ntmps235;go_wp2_with fail;go_ret;exact⟨rfl,Ext.refl _⟩
theorem b9z(b bn hd:Nat)(g:Int)(G:List Int)(w:World)(h:RAt w b bn hd (g::G)):
  Calls Tryz.prog 235 #[.pointer (some ⟨b,15,none⟩)] w λe w'=>e=.returned (ndp bn g.toNat)/\Ext w w':=by
 have r0:=h.r0;have r1:=h.r1;have hl:=h.hl;have h0:=h.h0;have rg:=h.rg 0 (by simp);have e:(hd+0) % 4000=hd:=by omega
 rw[e] at rg;simp only [List.getElem_cons_zero] at rg;have c0:(((g::G).length:Nat):Int)=(G.length:Int)+1:=by simp
 rw[c0] at r1;have nz:(((G.length:Int)+1) == 0)=false:=by simp;omega
 have d0:(0:Int)<=(hd:Int):=by omega
 have d1:(hd:Int)<4000:=by omega
 clear h e c0 hl;go_enter Tryz.func235,Tryz.ntmps235;go_wp2_with fail;go_quiet (fail);go_wp2_with fail;go_ret;exact⟨rfl,(Ext.refl _).drewN _⟩
theorem c9v(x:Hp)(H:Nat->Bool)(y:Wd):qW x H y=(y.k == 2 && !H (tgt x y)):=by
 unfold qW zU tgt tD;by_cases hk:y.k=2
 ·by_cases hs:(x.c y.a.toNat).st=2
  ·rw[if_pos ⟨hk,hs⟩];simp [hk,hs]
  ·rw[if_neg (λh=>hs h.2)];simp [hk,hs]
 ·have e:(y.k == 2)=false:=by simpa using hk
  rw[if_neg (λh=>hk h.1),e];rfl
structure LoAt(w:World)(b r bs bh:Nat)(x:Hp)(ac:Nat->Option Addr)(bn kn:Nat)(Mt:List Nat):Prop where
 s:w.cell? ⟨bs,0,none⟩=some (.pointer (some ⟨b,0,none⟩))
 h:w.cell? ⟨bh,0,none⟩=some (.map (some r))
 f:b8y w b x ac (some ⟨bn,0,none⟩) kn
 m:zQ w r bn (Mt.map (λi=>i*2))
 rl:r<w.heap.size
theorem LoAt.ext(h:LoAt w b r bs bh x ac bn kn Mt)(e:Ext w w'):LoAt w' b r bs bh x ac bn kn Mt:=
 ⟨e.keep h.s,e.keep h.h,h.f.ext e,h.m.block (e.block r h.rl),Nat.lt_of_lt_of_le h.rl e.size⟩
theorem c3z:i*2∈Mt.map (λi=>i*2)↔i∈Mt:=by
 simp only [List.mem_map];constructor
 ·rintro⟨j,hj,e⟩;have:j=i:=by omega
  rw[<-this];exact hj
 ·intro h;exact⟨i,h,rfl⟩
theorem c0q(x:Hp)(y:Wd)(b r bs bh bn kn:Nat)(ac:Nat->Option Addr)(Mt:List Nat)(w:World)(h:LoAt w b r bs bh x ac bn kn Mt)(r2:R2 x)(hy:a0p x y):
  Calls Tryz.prog 214 #[y.v,.pointer (some ⟨bs,0,none⟩),.pointer (some ⟨bh,0,none⟩)] w λe w'=>Hid (e=.returned (.bool (qW x (λi=>decide (i∈Mt)) y)))/\Ext w w':=by
 have E:=uU (c9v x (λi=>decide (i∈Mt)) y);have L:=uU h;have c0:=h.s;have c1:=h.h;have hb1:bh<w.heap.size:=uL c1;have hb2:bs<w.heap.size:=uL c0;have HF:=uU (λ(W:World) (e:Ext w W)=>a2w x y b W bn 0 (h.f.ext e) r2 hy);clear h;have xa:=(Ext.refl w).alloc (.cells #[iv y.k,iv y.n,iv y.a] 152);go_enter Tryz.func214,Tryz.ntmps214;go_wp2_with fail;go_region_with (go_at_call 123;refine(HF _ (by first | exact xa | exact xa.drew | exact xa.drewN _)).mono ?_;rintro e w1 ⟨t,rfl,ht,q1⟩;have x1:=Ext.trans (show Ext w _ by first | exact xa | exact xa.drew | exact xa.drewN _) q1;clear q1)
 all_goals
  rcases ht with⟨hk,rfl⟩ | ⟨hk,rfl⟩
  ·have R:=uU (show qW x (λi=>decide (i∈Mt)) y=false by rw[uH E];simp [hk]);clear hk;go_wp2_with fail;go_ret;exact⟨by show _=_;rw[uH R];rfl,x1⟩
  ·have R:=uU (show qW x (λi=>decide (i∈Mt)) y = !decide (tgt x y∈Mt) by rw[uH E];simp [hk]);have L1:=uU (L.ext x1);have d1:=x1.keep c1;have hb3:bh<w1.heap.size:=uL d1;simp only [Nat.zero_add];clear hk c0 c1;go_wp2_with fail;refine(a5x r bn (tgt x y*2) _ _ L1.m).mono ?_;rintro e w2 ⟨rfl,q2⟩;have M:=uU (show decide (tgt x y*2∈Mt.map (λi=>i*2))=decide (tgt x y∈Mt) by rw[decide_eq_decide];exact c3z);rw[uH M];obtain⟨dd,hdd⟩:∃d,d=decide (tgt x y∈Mt):=⟨_,rfl⟩;have R3:=uU (show qW x (λi=>decide (i∈Mt)) y = !dd by rw[uH R,hdd]);rw[<-hdd];clear M R hdd;go_wp2_with fail;go_ret;exact⟨by show _=_;rw[uH R3];rfl,x1.trans q2⟩
structure b5b(w:World)(b r bs bh bx bl:Nat)(x:Hp)(ac:Nat->Option Addr)(bn kn:Nat)(Mt:List Nat)(i:Nat):Prop where
 lo:LoAt w b r bs bh x ac bn kn Mt
 n:w.cell? ⟨bx,0,none⟩=some (ndp bn i)
 l:w.cell? ⟨bl,0,none⟩=some (.func (.func 214) #[] #[.pointer (some ⟨bs,0,none⟩),.pointer (some ⟨bh,0,none⟩)])
 c:∃bc oc,ac i=some ⟨bc,oc,none⟩/\w.cell? ⟨bn,i*2+1,none⟩=some (.pointer (some ⟨bc,oc,none⟩))/\w.cell? ⟨bc,oc+2,none⟩=some (iv (x.c i).weak)
theorem b5b.ext{bl:Nat}(h:b5b w b r bs bh bx bl x ac bn kn Mt i)(e:Ext w w'):b5b w' b r bs bh bx bl x ac bn kn Mt i:=
 ⟨h.lo.ext e,e.keep h.n,e.keep h.l,let ⟨bc,oc,a,p,q⟩:=h.c;⟨bc,oc,a,e.keep p,e.keep q⟩⟩
theorem c0r(x:Hp)(p:Pr)(b r bs bh bx bl bn kn i:Nat)(ac:Nat->Option Addr)(Mt:List Nat)(w:World)(h:b5b w b r bs bh bx bl x ac bn kn Mt i)(r2:R2 x)(hk:a0p x p.key)(hv:a0p x p.val):
  Calls Tryz.prog 215 #[p.v,.pointer (some ⟨bx,0,none⟩),.pointer (some ⟨bl,0,none⟩)] w λe w'=>Hid (e=.returned (.bool (goB x (λi=>decide (i∈Mt)) (x.c i) p)))/\Ext w w':=by
 obtain⟨E,hE⟩:∃E,E=goB x (λi=>decide (i∈Mt)) (x.c i) p:=⟨_,rfl⟩;have EE:=uU hE;rw[<-hE];clear hE;have HG:=uU h;have LK:=uU (λ(W:World) (e:Ext w W)=>c0q x p.key b r bs bh bn kn ac Mt W (h.lo.ext e) r2 hk);have LV:=uU (λ(W:World) (e:Ext w W)=>c0q x p.val b r bs bh bn kn ac Mt W (h.lo.ext e) r2 hv);obtain⟨bc,oc,_,m1,p2⟩:=h.c;have WK:=uU (λ(W:World) (e:Ext w W)=>a9w bn (i*2) bc oc (x.c i).weak W (e.keep m1) (e.keep p2));have WV:=uU (λ(W:World) (e:Ext w W)=>a5y bn (i*2) bc oc (x.c i).weak W (e.keep m1) (e.keep p2));have c0:=h.n;have c1:=h.l;have hb0:bx<w.heap.size:=uL c0;have hb1:bl<w.heap.size:=uL c1;clear h m1 p2;obtain⟨k1,hk1⟩:∃k,k=((x.c i).weak == 1 || (x.c i).weak == 3):=⟨_,rfl⟩;obtain⟨k2,hk2⟩:∃k,k=qW x (λi=>decide (i∈Mt)) p.key:=⟨_,rfl⟩;obtain⟨k3,hk3⟩:∃k,k=((x.c i).weak == 2 || (x.c i).weak == 3):=⟨_,rfl⟩;obtain⟨k4,hk4⟩:∃k,k=qW x (λi=>decide (i∈Mt)) p.val:=⟨_,rfl⟩;rw[<-hk1] at WK;rw[<-hk2] at LK;rw[<-hk3] at WV;rw[<-hk4] at LV;have E2:=uU (show E=((k1 && k2) || (k3 && k4)) by rw[uH EE,hk1,hk2,hk3,hk4];rfl);clear hk1 hk2 hk3 hk4 EE;have xa:=(Ext.refl w).alloc (.cells #[iv p.key.k,iv p.key.n,iv p.key.a,iv p.val.k,iv p.val.n,iv p.val.a] 154);go_enter Tryz.func215,Tryz.ntmps215;go_wp2_with fail;refine(WK _ xa).mono ?_;rintro e w1 ⟨rfl,q1⟩;have v0:=q1.keep (b:=w.heap.size) (o:=0) (v:=iv p.key.k) (by simp [go_sem]);have v1:=q1.keep (b:=w.heap.size) (o:=1) (v:=iv p.key.n) (by simp [go_sem]);have v2:=q1.keep (b:=w.heap.size) (o:=2) (v:=iv p.key.a) (by simp [go_sem]);have v3:=q1.keep (b:=w.heap.size) (o:=3) (v:=iv p.val.k) (by simp [go_sem]);have v4:=q1.keep (b:=w.heap.size) (o:=4) (v:=iv p.val.n) (by simp [go_sem]);have v5:=q1.keep (b:=w.heap.size) (o:=5) (v:=iv p.val.a) (by simp [go_sem]);have x1:=xa.trans q1;have d0:=x1.keep c0;have d1:=x1.keep c1;have hv1:w.heap.size<w1.heap.size:=uL v0;have hb2:bl<w1.heap.size:=uL d1;have hb4:bx<w1.heap.size:=uL d0;clear q1;cases k1
 ·go_wp2_with fail;refine(WV _ x1).mono ?_;rintro e w3 ⟨rfl,q3⟩;have x3:=Ext.trans x1 q3;have v3:=q3.keep v3;have v4:=q3.keep v4;have v5:=q3.keep v5;have d1:=x3.keep c1;have hb3:bl<w3.heap.size:=uL d1;have hv3:w.heap.size<w3.heap.size:=uL v3;cases k3
  ·have R:=uU (show E=false by rw[uH E2];simp);go_wp2_with fail;go_ret;exact⟨by show _=_;rw[uH R];rfl,x3⟩
  ·have R:=uU (show E=k4 by rw[uH E2];simp);go_wp2_with fail;refine(LV _ x3).mono ?_;rintro e w4 ⟨rfl,q4⟩;go_wp2_with fail;go_ret;exact⟨by show _=_;rw[uH R];rfl,x3.trans q4⟩
 ·go_wp2_with fail;refine(LK _ x1).mono ?_;rintro e w2 ⟨rfl,q2⟩;have x2:=x1.trans q2;have g0:=x2.keep c0;have u3:=q2.keep v3;have u4:=q2.keep v4;have u5:=q2.keep v5;have hb5:bx<w2.heap.size:=uL g0;cases k2
  ·go_wp2_with fail;refine(WV _ x2).mono ?_;rintro e w3 ⟨rfl,q3⟩;have x3:=Ext.trans x2 q3;have v3:=q3.keep u3;have v4:=q3.keep u4;have v5:=q3.keep u5;have d1:=x3.keep c1;have hb3:bl<w3.heap.size:=uL d1;have hv3:w.heap.size<w3.heap.size:=uL v3;cases k3
   ·have R:=uU (show E=false by rw[uH E2];simp);go_wp2_with fail;go_ret;exact⟨by show _=_;rw[uH R];rfl,x3⟩
   ·have R:=uU (show E=k4 by rw[uH E2];simp);go_wp2_with fail;refine(LV _ x3).mono ?_;rintro e w4 ⟨rfl,q4⟩;go_wp2_with fail;go_ret;exact⟨by show _=_;rw[uH R];rfl,x3.trans q4⟩
  ·have R:=uU (show E=true by rw[uH E2];simp);go_wp2_with fail;go_ret;exact⟨by show _=_;rw[uH R];rfl,x2⟩
end Go.Proofs.YtddkhnclmeikfaaGreat
