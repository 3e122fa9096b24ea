import Derived.Test.YtddkhnclmeikfaaGreatLw
set_option maxRecDepth 100000
set_option maxHeartbeats 4000000
namespace Go.Proofs.YtddkhnclmeikfaaGreat
open Go.RowKit
attribute [local go_sem ↓] Go.wp_at_zero Go.wp_at_succ
variable{w:World}{b B g:Nat}{x:Hp}
def qE(w:World)(b o:Nat)(c:Cl)(v:Value):World:=(((((((w.setCell ⟨b,o,none⟩ (iv c.st)).setCell ⟨b,o+1,none⟩ (iv c.kind)).setCell ⟨b,o+2,none⟩ (iv c.weak)).setCell ⟨b,o+3,none⟩ (iv c.last)).setCell ⟨b,o+4,none⟩ (iv c.born)).setCell ⟨b,o+5,none⟩ (iv c.color)).setCell ⟨b,o+6,none⟩ (iv c.to)).setCell ⟨b,o+7,none⟩ v
theorem b1x(w:World)(b o:Nat)(c:Cl)(v:Value):(qE w b o c v).drew=qE w.drew b o c v:=by
 have key:∀(W:World) (p:Addr) (u:Value),(W.setCell p u).drew=W.drew.setCell p u:=λ_ _ _=>rfl
 unfold qE;simp only [key]
theorem a0h(w:World)(b o:Nat)(c:Cl)(v:Value):uX (λq=>q=b) w (qE w b o c v):=
 uX.setCell (S:=λq=>q=b) (uX.setCell (S:=λq=>q=b) (uX.setCell (S:=λq=>q=b) (uX.setCell (S:=λq=>q=b) (uX.setCell (S:=λq=>q=b) (uX.setCell (S:=λq=>q=b) (uX.setCell (S:=λq=>q=b) (uX.setCell (S:=λq=>q=b) (uX.refl _ w) (p:=⟨b,o,none⟩) rfl _) (p:=⟨b,o+1,none⟩) rfl _) (p:=⟨b,o+2,none⟩) rfl _) (p:=⟨b,o+3,none⟩) rfl _) (p:=⟨b,o+4,none⟩) rfl _) (p:=⟨b,o+5,none⟩) rfl _) (p:=⟨b,o+6,none⟩) rfl _) (p:=⟨b,o+7,none⟩) rfl _
theorem a4o(h:Nf1 b w)(o:Nat)(c:Cl)(v:Value):Nf1 b (qE w b o c v):=(((((((h.set _ _).set _ _).set _ _).set _ _).set _ _).set _ _).set _ _).set _ _
theorem a2w(w:World)(b o:Nat)(c:Cl)(v:Value)(k:Nat)(hk:k<o\/o+8<=k):(qE w b o c v).cell? ⟨b,k,none⟩=w.cell? ⟨b,k,none⟩:=by
 unfold qE
 iterate 8 rw[uC _ (.inr (by omega))]
theorem a7t(w:World)(b o:Nat)(c d:Cl)(v u:Value)(h:S7 w b o d)(h7:w.cell? ⟨b,o+7,none⟩=some u):S7 (qE w b o c v) b o c/\(qE w b o c v).cell? ⟨b,o+7,none⟩=some v:=by
 obtain⟨a0,a1,a2,a3,a4,a5,a6⟩:=h;unfold qE;refine⟨⟨?_,?_,?_,?_,?_,?_,?_⟩,?_⟩
 ·iterate 7 rw[uC _ (.inr (by omega))]
  exact dQ a0
 ·iterate 6 rw[uC _ (.inr (by omega))]
  exact dQ ((uC _ (.inr (by omega))).trans a1)
 ·iterate 5 rw[uC _ (.inr (by omega))]
  refine dQ (u:=iv d.weak) ?_
  iterate 2 rw[uC _ (.inr (by omega))]
  exact a2
 ·iterate 4 rw[uC _ (.inr (by omega))]
  refine dQ (u:=iv d.last) ?_
  iterate 3 rw[uC _ (.inr (by omega))]
  exact a3
 ·iterate 3 rw[uC _ (.inr (by omega))]
  refine dQ (u:=iv d.born) ?_
  iterate 4 rw[uC _ (.inr (by omega))]
  exact a4
 ·iterate 2 rw[uC _ (.inr (by omega))]
  refine dQ (u:=iv d.color) ?_
  iterate 5 rw[uC _ (.inr (by omega))]
  exact a5
 ·rw[uC _ (.inr (by omega))];refine dQ (u:=iv d.to) ?_
  iterate 6 rw[uC _ (.inr (by omega))]
  exact a6
 ·refine dQ (u:=u) ?_
  iterate 7 rw[uC _ (.inr (by omega))]
  exact h7
def b0u(x:Hp)(t f:Nat):Hp:={ x with cells:=(x.cells.set t (x.c f)).set f (mvC t) }
theorem b9h[Inhabited uN]{ar:Option Addr}{kr:Nat}{ac:Option Addr}{kc:Nat}{vg:Value}{br bc:Nat}{pb:Nat->Nat}{pa:Nat->Option Addr}{pk:Nat->Nat}{role:Nat->Nat}(h:GAt B w g x ar kr ac kc vg br bc pb pa pk role)(t f:Nat)(htf:t≠f)(ht:t<x.cells.length)(hf:f<x.cells.length):
  ∃pb' pa' pk' role',GAt B (zY (qE w bc (t*8) (x.c f) (.slice (pa f) (x.c f).prs.length (pk f))) bc (f*8) 2 t) g (b0u x t f) ar kr ac kc vg br bc pb' pa' pk' role':=by
 have hn:0<x.cells.length:=by omega
 obtain⟨k1,k2⟩:=a7t w bc (t*8) (x.c f) (x.c t) (.slice (pa f) (x.c f).prs.length (pk f)) _ (h.rw.s t ht) (h.rw.p7 t ht);have o1:=a2w w bc (t*8) (x.c f) (.slice (pa f) (x.c f).prs.length (pk f));have s2:S7 (qE w bc (t*8) (x.c f) (.slice (pa f) (x.c f).prs.length (pk f))) bc (f*8) (x.c f):=(h.rw.s f hf).of λj hj=>o1 _ (by omega)
 have s7:=(o1 (f*8+7) (by omega)).trans (h.rw.p7 f hf);obtain⟨m1,m2⟩:=a4m (qE w bc (t*8) (x.c f) (.slice (pa f) (x.c f).prs.length (pk f))) bc (f*8) 2 t _ _ s2 s7;have o2:=a3r (qE w bc (t*8) (x.c f) (.slice (pa f) (x.c f).prs.length (pk f))) bc (f*8) 2 t;refine h.move t f htf ht hf ((a0h _ _ _ _ _).trans (a0g _ _ _ _ _)) (a8p (a4o (h.rw.nc hn).1 _ _ _) _ _ _) ?_ ?_ m1 m2 (λq hq h1 h2 k hk=>?_) (λj hj=>by rw[o2 _ (by omega),o1 _ (by omega)])
 ·exact k1.of λj hj=>o2 _ (by omega)
 ·rw[o2 _ (by omega)];exact k2
 ·rw[o2 _ (by omega),o1 _ (by omega)]
theorem mvd_c(x:Hp)(t f:Nat)(ht:t<x.cells.length)(hf:f<x.cells.length)(q:Nat):(b0u x t f).c q=if q=f then mvC t else if q=t then x.c f else x.c q:=by
 have h1:=Hp.c_set { x with cells:=x.cells.set t (x.c f) } f (mvC t) (by simpa using hf) q;have h2:=Hp.c_set x t (x.c f) ht q;have e:b0u x t f={ ({ x with cells:=x.cells.set t (x.c f) }:Hp) with cells:=({ x with cells:=x.cells.set t (x.c f) }:Hp).cells.set f (mvC t) }:=rfl;rw[e,h1];by_cases e1:q=f
 ·rw[if_pos e1,if_pos e1]
 ·rw[if_neg e1,if_neg e1];exact h2
def yH(x:Hp)(t f j:Nat):Hp:={ b0u x t f with regs:=(x.regs.take j).map (mvW t f)++x.regs.drop j }
theorem res_mv(x:Hp)(t f j:Nat)(ht:t<x.cells.length)(hf:f<x.cells.length)(h0:(x.c t).st=0)(r:Wd)(hr:cN x r False):qJ (yH x t f j) r=mvW t f r:=by
 have hc:∀q,(yH x t f j).c q=(b0u x t f).c q:=λ_=>rfl
 unfold qJ mvW;rw[hc,mvd_c x t f ht hf];by_cases hk:r.k=2
 ·have h1:(x.c r.a.toNat).st=1:=by
   rcases hr.2 hk with h | h
   ·exact h.2.elim
   ·exact h.1
  have ha:0<=r.a:=by have:=hr.1;unfold uK at this;omega
  by_cases e:r.a.toNat=f
  ·have ea:r.a=(f:Int):=by omega
   rw[if_pos e,if_pos ⟨hk,rfl⟩,if_pos ⟨hk,ea⟩];rfl
  ·have ea:¬r.a=(f:Int):=by omega
   have et:¬r.a.toNat=t:=λe2=>by rw[e2] at h1;omega
   rw[if_neg e,if_neg et,if_neg (λh=>by have:=h.2;omega),if_neg (λh=>ea h.2)]
 ·rw[if_neg (λh=>hk h.1),if_neg (λh=>hk h.1)]
theorem mvdR_at(x:Hp)(t f j:Nat)(hj:j<x.regs.length):∃h:j<(yH x t f j).regs.length,(yH x t f j).regs[j]=x.regs[j]:=by
 have hl:j<(yH x t f j).regs.length:=by simp [yH];omega
 refine⟨hl,?_⟩;simp only [yH];rw[List.getElem_append_right (by simp;omega)];simp [Nat.min_eq_left (Nat.le_of_lt hj)]
theorem c2e(x:Hp)(t f j:Nat)(hj:j<x.regs.length):({ yH x t f j with regs:=(yH x t f j).regs.set j (mvW t f x.regs[j]) }:Hp)=yH x t f (j+1):=by
 have:(yH x t f j).regs.set j (mvW t f x.regs[j])=(yH x t f (j+1)).regs:=by
  simp only [yH];rw[List.set_append_right _ _ (by simp;omega),List.take_succ_eq_append_getElem hj,List.map_append];simp only [List.length_map,List.length_take,Nat.min_eq_left (Nat.le_of_lt hj),Nat.sub_self];have hd:=List.drop_eq_getElem_cons hj;rw[hd];simp only [List.set_cons_zero,List.map_cons,List.map_nil,List.append_assoc,List.singleton_append]
 rw[this];rfl
theorem c2f(x:Hp)(t f:Nat):yH x t f 0=b0u x t f:=by simp [yH,b0u]
theorem c5j(x:Hp)(t f:Nat):yH x t f x.regs.length=zN x t f:=by simp [yH,b0u,zN]
def dJ(w:World)(b o:Nat)(y:Wd):World:=((w.setCell ⟨b,o,none⟩ (iv y.k)).setCell ⟨b,o+1,none⟩ (iv y.n)).setCell ⟨b,o+2,none⟩ (iv y.a)
theorem a5x(w:World)(b o:Nat)(y z:Wd)(h:tW w b o z):tW (dJ w b o y) b o y:=by
 obtain⟨h0,h1,h2⟩:=h;unfold dJ;refine⟨?_,?_,?_⟩
 ·iterate 2 rw[uC _ (.inr (by omega))]
  exact dQ h0
 ·rw[uC _ (.inr (by omega))];exact dQ ((uC _ (.inr (by omega))).trans h1)
 ·refine dQ (u:=iv z.a) ?_
  iterate 2 rw[uC _ (.inr (by omega))]
  exact h2
theorem a0e(w:World)(b o:Nat)(y:Wd):uX (λq=>q=b) w (dJ w b o y):=
 uX.setCell (S:=λq=>q=b) (uX.setCell (S:=λq=>q=b) (uX.setCell (S:=λq=>q=b) (uX.refl _ w) (p:=⟨b,o,none⟩) rfl _) (p:=⟨b,o+1,none⟩) rfl _) (p:=⟨b,o+2,none⟩) rfl _
theorem b1y(h:Nf1 b w)(o:Nat)(y:Wd):Nf1 b (dJ w b o y):=((h.set _ _).set _ _).set _ _
theorem a0u(w:World)(b o:Nat)(y:Wd)(k:Nat)(hk:k<o\/o+3<=k):(dJ w b o y).cell? ⟨b,k,none⟩=w.cell? ⟨b,k,none⟩:=by
 unfold dJ
 iterate 3 rw[uC _ (.inr (by omega))]
theorem b9i[Inhabited uN](B g:Nat)(x:Hp)(w:World)(h:GOk B w g x)(s:Snd x)(a:World)(ha:a.heap.size<=B)(hx:Ext a w):
  Calls Tryz.prog 190 #[.pointer (some ⟨g,0,none⟩)] w λe w'=>e=.returned (.tuple #[])/\GOk B w' g (unit4 x)/\Ext a w':=by
 obtain⟨ar,kr,ac,kc,vg,br,bc,pb,pa,pk,role,h⟩:=h;have H:=uU h;have n8:=s.ok.n8;have lo:=h.lo;have S:=uU s;have c4:=h.bx.2.2.2.2.1;have FT:=uU (a0z x);obtain⟨t,ht⟩:∃t,t=cD x:=⟨_,rfl⟩;have HT:=uU ht;have EU:=uU (show unit4 x=if a1s x x.cells.length<=(t:Int) then dD x 5 0 else zN x t (a1s x x.cells.length).toNat by unfold unit4;rw[<-ht]);have QF:=uU (b1w h n8);rw[<-ht] at QF FT;have hwr:wrap64 ((x.cells.length:Int)-1)=(x.cells.length:Int)-1:=a2b _ (by omega) (by omega);have LU:=uU (a1w x);have r0:0<x.regs.length:=by have:=s.r1.regs;omega
 have r16:x.regs.length<=16:=by have:=s.r1.regs;omega
 clear h s ht;go_enter Tryz.func190,Tryz.ntmps190;go_wp2_with fail;refine QF.mono ?_;rintro e w1 ⟨rfl,x1⟩;have H1:=uU (H.ext x1);have d4:=x1.keep c4;have hgw:g<w1.heap.size:=uL d4;have X1:=hx.trans x1;clear c4 QF H hx x1;go_wp2_with fail;go_loopw [3] (λfr wr=>∃m:Nat,m<=x.cells.length/\fr=.int .i64 ((m:Int)-1)/\Hid (∀q,m<=q->q<x.cells.length->(x.c q).st≠1)/\Ext w1 wr) (λfr _=>(intOf fr+1).toNat)
 case atStart=>exact⟨x.cells.length,Nat.le_refl _,rfl,(λq h1 h2=>by omega),Ext.refl _⟩
 case round=>
  obtain⟨m,hm,rfl,hno,hxr⟩:=hrel;cases m with
  | zero=>
   have e4:=hxr.keep d4;have tn:((t:Int)≥-1)=True:=by simp
   have LE:=uU (show a1s x x.cells.length = -1 by
    rcases uH LU x.cells.length with⟨e,_⟩ | ⟨f,_,hf,h1,_⟩
    ·exact e
    ·exact absurd h1 (hno f (Nat.zero_le _) hf))
   clear d4;have EF:=uU (show unit4 x=dD x 5 0 by rw[uH EU,if_pos (by rw[uH LE];omega)]);go_wp2_with fail;refine(a0y B g x 5 0 _ ⟨_,_,_,_,_,_,_,_,_,_,_,H1.ext hxr⟩ a ha (X1.trans hxr)).mono ?_;rintro e w3 ⟨rfl,h3,x3⟩;have H3:=uU h3;clear h3;go_wp2_with fail
   try simp only [Exit.inBlock,Exit.then]
   refine bodyPost_ret (results_none rfl _ _ _) rfl ?_;exact⟨rfl,by rw[uH EF];exact uH H3,x3⟩
  | succ f=>
   have hfn:f<x.cells.length:=by omega
   have hn:0<x.cells.length:=by omega
   have ef:(((f+1:Nat):Int)-1)=(f:Int):=by omega
   rw[ef];have e4:=hxr.keep d4;rw[H1.hc hn] at e4;have e0:=((H1.ext hxr).rw.s f hfn).1;have hgr:g<wr.heap.size:=uL e4;have hbc:bc<wr.heap.size:=uL e0;have f0:(0:Int)<=(f:Int):=by omega
   have f1:(f:Int)<(x.cells.length:Int):=by omega
   clear d4;cases q:((x.c f).st == 1)
   ·have qb:((x.c f).st != 1)=true:=by simpa using q
    have Q:=uU (show ∀q,f<=q->q<x.cells.length->(x.c q).st≠1 from λq h1 h2=>by
     by_cases e:q=f
     ·rw[e];simpa using ‹((x.c f).st == 1)=false›
     ·exact hno q (by omega) h2)
    go_wp2_with fail;go_roundw
    case rel=>exact⟨f,by omega,by go_num,Q,hxr⟩
    case measure=>simp [intOf]
   ·have qb:((x.c f).st != 1)=false:=by simpa using q
    have LE:=uU (show a1s x x.cells.length=(f:Int) by
     rcases uH LU x.cells.length with⟨_,h1⟩ | ⟨f',e,hf,h1,h2⟩
     ·exact absurd (by simpa using q) (h1 f hfn)
     ·rcases Nat.lt_trichotomy f' f with e2 | e2 | e2
      ·exact absurd (by simpa using q) (h2 f e2 hfn)
      ·rw[e,e2]
      ·exact absurd h1 (hno f' (by omega) hf))
    by_cases htf:(t:Int)≥(f:Int)
    ·have EF:=uU (show unit4 x=dD x 5 0 by rw[uH EU,if_pos (by rw[uH LE];omega)]);go_wp2_with fail;refine(a0y B g x 5 0 _ ⟨_,_,_,_,_,_,_,_,_,_,_,H1.ext hxr⟩ a ha (X1.trans hxr)).mono ?_;rintro e w3 ⟨rfl,h3,x3⟩;have H3:=uU h3;clear h3;go_wp2_with fail
     try simp only [Exit.inBlock,Exit.then]
     refine bodyPost_ret (results_none rfl _ _ _) rfl ?_;exact⟨rfl,by rw[uH EF];exact uH H3,x3⟩
    ·have EF:=uU (show unit4 x=zN x t f by rw[uH EU,if_neg (by rw[uH LE];omega),uH LE];rfl);have HR:=uU (H1.ext hxr);have htn:t<x.cells.length:=by omega
     obtain⟨a0,a1,a2,a3,a4,a5,a6⟩:=HR.rw.s f hfn;have a7:=HR.rw.p7 f hfn;obtain⟨b0,b1,b2,b3,b4,b5,b6⟩:=HR.rw.s t htn;have b7:=HR.rw.p7 t htn;have fc:=(HR.rw.nc hn).1.2;have t0:(0:Int)<=(t:Int):=by omega
     have t1:(t:Int)<(x.cells.length:Int):=by omega
     have XR:=X1.trans hxr;have NGC:=uU (show ¬g=bc from λe=>by have h1:=HR.sp.g;have h2:=HR.sp.c hn;rw[e] at h1;omega);have ngc:¬g=bc:=uH NGC;have ncg:¬bc=g:=λe=>uH NGC e.symm
     have nof:¬f*8=t*8:=by omega
     clear e0 hxr H1 hno;go_wp2_with fail
     go_region
     all_goals
      obtain⟨W5,hW5⟩:∃W,W=(qE wr bc (t*8) (x.c f) (.slice (pa f) (x.c f).prs.length (pk f))).drew:=⟨_,rfl⟩;have W5E:=uU (show W5=qE wr.drew bc (t*8) (x.c f) (.slice (pa f) (x.c f).prs.length (pk f)) by rw[hW5,b1x]);have O5:=a2w wr.drew bc (t*8) (x.c f) (.slice (pa f) (x.c f).prs.length (pk f))
      have d4:W5.cell? ⟨g,4,none⟩=some (.slice (some ⟨bc,0,none⟩) x.cells.length kc):=by
       rw[uH W5E,World.cell?_of_block (a:=⟨g,4,none⟩) ((a0h wr.drew bc (t*8) (x.c f) _).block g (by simpa using hgr) (by omega))];exact e4
      have g3:W5.cell? ⟨g,3,none⟩=some (.slice (some ⟨br,0,none⟩) x.regs.length kr):=by
       rw[uH W5E,World.cell?_of_block (a:=⟨g,3,none⟩) ((a0h wr.drew bc (t*8) (x.c f) _).block g (by simpa using hgr) (by omega))];have:=HR.bx.2.2.2.1;rw[HR.ha r0] at this;exact this
      have d0:W5.cell? ⟨bc,f*8,none⟩=some (iv (x.c f).st):=by rw[uH W5E,O5 _ (by omega)];exact a0
      have d1:W5.cell? ⟨bc,f*8+1,none⟩=some (iv (x.c f).kind):=by rw[uH W5E,O5 _ (by omega)];exact a1
      have d2:W5.cell? ⟨bc,f*8+2,none⟩=some (iv (x.c f).weak):=by rw[uH W5E,O5 _ (by omega)];exact a2
      have d3:W5.cell? ⟨bc,f*8+3,none⟩=some (iv (x.c f).last):=by rw[uH W5E,O5 _ (by omega)];exact a3
      have dd4:W5.cell? ⟨bc,f*8+4,none⟩=some (iv (x.c f).born):=by rw[uH W5E,O5 _ (by omega)];exact a4
      have d5:W5.cell? ⟨bc,f*8+5,none⟩=some (iv (x.c f).color):=by rw[uH W5E,O5 _ (by omega)];exact a5
      have d6:W5.cell? ⟨bc,f*8+6,none⟩=some (iv (x.c f).to):=by rw[uH W5E,O5 _ (by omega)];exact a6
      have d7:W5.cell? ⟨bc,f*8+7,none⟩=some (.slice (pa f) (x.c f).prs.length (pk f)):=by rw[uH W5E,O5 _ (by omega)];exact a7
      have fc5:∀j,W5.frozen? ⟨bc,j,none⟩=false:=by rw[uH W5E];exact(a4o (w:=wr.drew) (hY (HR.rw.nc hn).1 rfl (by simp)) _ _ _).2
      have hg5:g<W5.heap.size:=uL d4;have hb5:bc<W5.heap.size:=uL d0;have X5:Ext a W5:=by rw[uH W5E];exact(a0h wr.drew bc (t*8) (x.c f) _).ext XR.drew (λq hq e=>by have:=(HR.rw.nc hn).2;omega)
      unfold qE at hW5;rw[<-hW5];clear hW5 O5 a0 a1 a2 a3 a4 a5 a6 a7 b0 b1 b2 b3 b4 b5 b6 b7 fc e4 hgr hbc XR q qb ef hm nof LE EU LU HT hwr hgw X1 n8 lo t0 f0;have FT0:=uU FT;have LTS:=uU (show t<x.cells.length/\f<x.cells.length/\t≠f by omega);clear FT htf htn hfn;have T0:=uU (show(x.c t).st=0 from FT0.2.2 LTS.1)
      have G6:=uU (show Hid (∃pb' pa' pk' role',GAt B (zY W5 bc (f*8) 2 t) g (yH x t f 0) ar kr ac kc vg br bc pb' pa' pk' role') by
       rw[c2f,uH W5E];exact b9h (HR.ext (Ext.refl wr).drew) t f LTS.2.2 LTS.1 LTS.2.1)
      have X6:Ext a (zY W5 bc (f*8) 2 t):=(a0g W5 bc (f*8) 2 t).ext X5 (λq hq e=>by have:=(HR.rw.nc hn).2;omega);obtain⟨W6,hW6⟩:∃W,W=zY W5 bc (f*8) 2 t:=⟨_,rfl⟩;rw[<-hW6] at G6 X6;unfold zY at hW6;go_wp2_with fail;rw[<-hW6];clear hW6 d0 d1 d2 d3 d4 dd4 d5 d6 d7 fc5 hg5 hb5 g3 X5;go_loopw [59] (λi wr=>∃j:Nat,j<=x.regs.length/\i=.int .i64 j/\Hid (∃pb' pa' pk' role',GAt B wr g (yH x t f j) ar kr ac kc vg br bc pb' pa' pk' role')/\Ext a wr) (λi _=>x.regs.length-(intOf i).toNat)
      case atStart=>exact⟨0,Nat.zero_le _,rfl,G6,X6⟩
      case round=>
       obtain⟨j,hj,rfl,hG,hxr⟩:=hrel;by_cases hlt:j<x.regs.length
       ·obtain⟨pb',pa',pk',role',hG⟩:=hG;obtain⟨hl,er⟩:=mvdR_at x t f j hlt;have RL:=uU (show(yH x t f j).regs.length=x.regs.length by simp [yH];omega);have CL:=uU (show(yH x t f j).cells.length=x.cells.length by simp [yH,b0u]);have HJ:=uU hG;have c3:=hG.bx.2.2.2.1;rw[hG.ha (by omega),uH RL] at c3;obtain⟨w0,w1,w2⟩:=hG.rw.r j hl;rw[er] at w0 w1 w2;have LD:=uU (S.r4.1 j hlt);have RS:=uU (res_mv x t f j LTS.1 LTS.2.1 T0 x.regs[j] LD);have fb:=(hG.rw.nr (by omega)).1.2;have hgr:g<wr.heap.size:=uL c3;have hbr:br<wr.heap.size:=uL w0;have hbB:=(hG.rw.nr (by omega)).2;have j0:(0:Int)<=(j:Int):=by omega
        have j1:(j:Int)<(x.regs.length:Int):=by omega
        clear hG er;obtain⟨rr,hrr⟩:∃r,r=mvW t f x.regs[j]:=⟨_,rfl⟩;have SU:=uU (c2e x t f j hlt);rw[<-hrr] at RS SU;clear hrr
        have FN:=uU (show ∀W,Ext wr W->Hid (∃pb' pa' pk' role',GAt B (dJ W br (j*3) rr) g (yH x t f (j+1)) ar kr ac kc vg br bc pb' pa' pk' role')/\Ext a (dJ W br (j*3) rr) from λW xW=>by
         have g1:=HJ.ext xW;refine⟨⟨pb',pa',pk',role',?_⟩,(a0e W br (j*3) rr).ext (hxr.trans xW) (λq hq e=>by omega)⟩;rw[<-uH SU];exact g1.setr j hl rr (a0e _ _ _ _) (b1y (g1.rw.nr (by omega)).1 _ _) (a5x _ _ _ _ _ (g1.rw.r j hl)) (λm hm=>a0u _ _ _ _ m hm))
        unfold dJ at FN;go_wp2_with fail;go_region_with (go_at_call 138;refine(a4n x.regs[j] _ (HJ.ext (Ext.refl wr).drew) (by rw[uH CL];exact LD.1)).mono ?_;rintro e w5 ⟨rfl,x5⟩;rw[uH RS];have xw5:=Ext.trans (Ext.refl wr).drew x5;have k3:=xw5.keep c3;have k0:=xw5.keep w0;have k1:=xw5.keep w1;have k2:=xw5.keep w2;have kf:=λm=>((cZ xw5).2 br m hbr).trans (fb m);have XW:=uU xw5;clear x5 xw5)
        all_goals
         go_wp2_with fail;go_roundw
         case rel=>exact⟨j+1,by omega,by go_num,(FN w5 XW).1,(FN w5 XW).2⟩
         case measure=>simp [intOf];omega
       ·have je:j=x.regs.length:=by omega
        subst je;rw[c5j] at hG;go_wp2_with fail
        go_end0
        exact⟨rfl,by
         rw[uH EF];obtain⟨pb',pa',pk',role',hG⟩:=uH hG;exact⟨_,_,_,_,_,_,_,_,_,_,_,hG⟩,hxr⟩
theorem GOk.set11[Inhabited uN](h:GOk B w g x)(v:Int):GOk B (w.setCell ⟨g,11,none⟩ (iv v)) g { x with rounds:=v }:=by
 obtain⟨ar,kr,ac,kc,vg,br,bc,pb,pa,pk,role,h⟩:=h;exact⟨_,_,_,_,_,_,_,_,_,_,_,h.boxed (x':={ x with rounds:=v }) (uX.setCell (S:=λq=>q=g) (uX.refl _ w) (p:=⟨g,11,none⟩) rfl _) (h.nf.set _ _) rfl rfl rfl (h.bx.set11 v)⟩
theorem b6s[Inhabited uN](B g:Nat)(x:Hp)(w:World)(h:GOk B w g x)(s:Snd x)(a:World)(ha:a.heap.size<=B)(hx:Ext a w)(h0:x.hand=0):
  Calls Tryz.prog 192 #[.pointer (some ⟨g,0,none⟩)] w λe w'=>e=.returned (.tuple #[])/\GOk B w' g (dZ x)/\Ext a w':=by
 have HO:=uU h;obtain⟨c6,_,_,_,lo,hgw⟩:=h.box;rw[h0] at c6;have E:=uU (show dZ x={ dD x 0 0 with rounds:=if x.rounds<1000000000 then x.rounds+1 else x.rounds } by unfold dZ;rw[if_pos h0];rfl);have hr:=s.r1.rounds;clear h h0 s;go_enter Tryz.func192,Tryz.ntmps192;go_wp2_with fail;refine(a0y B g x 0 0 _ HO a ha hx).mono ?_;rintro e w2 ⟨rfl,h2,x2⟩;have H2:=uU h2
 have c11:w2.cell? ⟨g,11,none⟩=some (iv x.rounds):=by
  obtain⟨ar,kr,ac,kc,vg,br,bc,pb,pa,pk,role,h⟩:=h2;exact h.bx.2.2.2.2.2.2.2.2.2.2.2.1
 have f11:=(h2.box).2.2.2.1 11;have hgw2:g<w2.heap.size:=uL c11;clear h2;by_cases hlt:x.rounds<1000000000
 ·have EF:=uU (show dZ x={ dD x 0 0 with rounds:=x.rounds+1 } by rw[uH E,if_pos hlt]);have H3:=uU (H2.set11 (x.rounds+1));have X3:=uU (x2.setCell (p:=⟨g,11,none⟩) (show a.heap.size<=g by omega) (iv (x.rounds+1)));have wr:wrap64 (x.rounds+1)=x.rounds+1:=by unfold wrap64;omega
  go_wp2_with fail
  try simp only [Exit.inBlock,Exit.then]
  refine bodyPost_ret (results_none rfl _ _ _) rfl ?_;exact⟨rfl,by rw[uH EF];exact uH H3,X3⟩
 ·have EF:=uU (show dZ x={ dD x 0 0 with rounds:=x.rounds } by rw[uH E,if_neg hlt]);go_wp2_with fail
  try simp only [Exit.inBlock,Exit.then]
  refine bodyPost_ret (results_none rfl _ _ _) rfl ?_;exact⟨rfl,by rw[uH EF];exact uH H2,x2⟩
theorem b4z[Inhabited uN](B g:Nat)(x:Hp)(w:World)(h:GOk B w g x)(s:Snd x)(a:World)(ha:a.heap.size<=B)(hx:Ext a w)(i:Nat)(hi:x.hand=(i:Int)+1):
  Calls Tryz.prog 192 #[.pointer (some ⟨g,0,none⟩)] w λe w'=>e=.returned (.tuple #[])/\GOk B w' g (dZ x)/\Ext a w':=by
 obtain⟨ar,kr,ac,kc,vg,br,bc,pb,pa,pk,role,h⟩:=h;have H:=uU h;have c4:=h.bx.2.2.2.2.1;have c6:=h.bx.2.2.2.2.2.2.1;have hgw:g<w.heap.size:=uL c4;have lo:=h.lo;have n8:=s.ok.n8;have hin:i<x.cells.length:=by have:=s.r1.hand;omega
 have hn:0<x.cells.length:=by omega
 rw[h.hc hn] at c4;rw[hi] at c6;have p0:=(h.rw.s i hin).1;have hbc:bc<w.heap.size:=uL p0;have f6:=h.nf.2 6
 have EU:=uU (show dZ x=zX (eU x i) i by
  have e:(x.hand-1).toNat=i:=by omega
  unfold dZ;rw[if_neg (by omega),e])
 have NGC:=uU (show ¬g=bc from λe=>by have h1:=h.sp.g;have h2:=h.sp.c hn;rw[e] at h1;omega);have ngc:¬g=bc:=uH NGC;have ncg:¬bc=g:=λe=>uH NGC e.symm
 have h60:(((i:Int)+1) == 0)=false:=by simp;omega
 have i0:(0:Int)<=(i:Int):=by omega
 have i1:(i:Int)<(x.cells.length:Int):=by omega
 have W1G:=uU (show GAt B (w.setCell ⟨g,6,none⟩ (iv i)) g { x with hand:=(i:Int) } ar kr ac kc vg br bc pb pa pk role from h.boxed (x':={ x with hand:=(i:Int) }) (uX.setCell (S:=λq=>q=g) (uX.refl _ w) (p:=⟨g,6,none⟩) rfl _) (h.nf.set _ _) rfl rfl rfl (h.bx.set6 _));have X1:=uU (hx.setCell (p:=⟨g,6,none⟩) (show a.heap.size<=g by omega) (iv i));clear h s hi;go_enter Tryz.func192,Tryz.ntmps192;go_wp2_with fail;obtain⟨W1,hW1⟩:∃W,W=w.setCell ⟨g,6,none⟩ (iv i):=⟨_,rfl⟩;rw[<-hW1] at W1G X1 ⊢;clear hW1 c4 c6 p0 f6 hbc;have c4:=W1G.bx.2.2.2.2.1;rw[H.hc hn] at c4;have c6:W1.cell? ⟨g,6,none⟩=some (iv i):=W1G.bx.2.2.2.2.2.2.1;have p0:W1.cell? ⟨bc,i*8,none⟩=some (iv (x.c i).st):=(W1G.rw.s i hin).1;have hgW:g<W1.heap.size:=uL c6;have hbc:bc<W1.heap.size:=uL p0;have f4:=W1G.nf.2 4;cases q2:((x.c i).st == 2)
 ·have EZ:=uU (show({ x with hand:=(i:Int) }:Hp)=eU x i by unfold eU;rw[if_neg (by intro e;simp [e] at q2)]);go_quiet (fail);obtain⟨WZ,hWZ⟩:∃W,W=W1.drewN nq:=⟨_,rfl⟩;have GZ:=uU (show GAt B WZ g (eU x i) ar kr ac kc vg br bc pb pa pk role by rw[hWZ,<-uH EZ];exact W1G.ext ((Ext.refl W1).drewN _));have XZ:=uU (show Ext a WZ by rw[hWZ];exact X1.drewN _);have LZ:=uU (show(eU x i).cells.length=x.cells.length by rw[<-uH EZ]);have SZ:=uU (show((eU x i).c i).st=(x.c i).st by rw[<-uH EZ];rfl);go_wp2_with fail;rw[<-hWZ];clear hWZ c4 c6 p0 hgW hbc f4;have c4:=GZ.bx.2.2.2.2.1;rw[H.hc hn,uH LZ] at c4;have c6:WZ.cell? ⟨g,6,none⟩=some (iv i):=GZ.bx.2.2.2.2.2.2.1;have p0:WZ.cell? ⟨bc,i*8,none⟩=some (iv (x.c i).st):=by have:=(GZ.rw.s i (by rw[uH LZ];exact hin)).1;rw[uH SZ] at this;exact this
  have f4:=GZ.nf.2 4;have hgW:g<WZ.heap.size:=uL c6;have hbc:bc<WZ.heap.size:=uL p0;cases qL:((i:Int) == (x.cells.length:Int)-1)
  ·have EF:=uU (show dZ x=eU x i by rw[uH EU];unfold zX;rw[if_neg];intro e;have:=e.1;rw[uH LZ] at this;simp at qL;omega);go_quiet (fail);go_wp2_with fail
   go_end0
   exact⟨rfl,by rw[uH EF];exact⟨_,_,_,_,_,_,_,_,_,_,_,GZ.ext ((Ext.refl WZ).drewN _)⟩,XZ.drewN _⟩
  ·cases q0:((x.c i).st == 0)
   ·have EF:=uU (show dZ x=eU x i by rw[uH EU];unfold zX;rw[if_neg];intro e;have:=e.2;rw[uH SZ] at this;simp [this] at q0);go_quiet (fail);go_wp2_with fail
    go_end0
    exact⟨rfl,by rw[uH EF];exact⟨_,_,_,_,_,_,_,_,_,_,_,GZ.ext ((Ext.refl WZ).drewN _)⟩,XZ.drewN _⟩
   ·have SZ2:=uU (show((eU x i).c i).st=0 by rw[uH SZ];simpa using q0);have EF:=uU (show dZ x={ eU x i with cells:=(eU x i).cells.take i } by rw[uH EU];unfold zX;rw[if_pos ⟨by rw[uH LZ];simp at qL;omega,SZ2⟩])
    have FN:=uU (show ∀n,GOk B ((WZ.drewN n).setCell ⟨g,4,none⟩ (.slice (some ⟨bc,0,none⟩) i kc)) g { eU x i with cells:=(eU x i).cells.take i }/\Ext a ((WZ.drewN n).setCell ⟨g,4,none⟩ (.slice (some ⟨bc,0,none⟩) i kc)) from λn=>by
     have g1:=(GZ.ext ((Ext.refl WZ).drewN n)).drop i (by rw[uH LZ];simp at qL;omega);rw[H.hc hn] at g1;exact⟨g1,(XZ.drewN n).setCell (p:=⟨g,4,none⟩) (show a.heap.size<=g by omega) _⟩)
    have kl:(i:Int)<=(kc:Int):=by have:=H.kl;omega
    go_quiet (fail);go_wp2_with fail
    go_region
    all_goals
     go_wp2_with fail
     go_end0
     exact⟨rfl,by rw[uH EF];exact(FN _).1,(FN _).2⟩
 ·obtain⟨r0,r1,r2,r3,r4,r5,r6⟩:=W1G.rw.s i hin;have r7:=W1G.rw.p7 i hin;have fc:=(W1G.rw.nc hn).1.2;go_quiet (fail);go_wp2_with fail
  go_region
  all_goals
   obtain⟨WZ,hWZ⟩:∃W,W=zY (W1.drewN (nq+1)) bc (i*8) 0 0:=⟨_,rfl⟩;have EZ:=uU (show({ x with cells:=x.cells.set i ⟨0,0,0,0,0,0,0,[]⟩,hand:=(i:Int) }:Hp)=eU x i by unfold eU;rw[if_pos (by simpa using q2)];rfl)
   have GZ:=uU (show GAt B WZ g (eU x i) ar kr ac kc vg br bc pb (λq=>if q=i then none else pa q) (λq=>if q=i then 0 else pk q) role by
    have g1:=W1G.ext ((Ext.refl W1).drewN (nq+1));obtain⟨k1,k2⟩:=a4m (W1.drewN (nq+1)) bc (i*8) 0 0 _ _ (g1.rw.s i hin) (g1.rw.p7 i hin);rw[hWZ,<-uH EZ];exact g1.clear i hin _ rfl (a0g _ _ _ _ _) (a8p (g1.rw.nc hn).1 _ _ _) k1 k2 (λk hk=>a3r _ _ _ _ _ k hk))
   have XZ:=uU (show Ext a WZ by rw[hWZ];exact(a0g _ _ _ _ _).ext (X1.drewN _) (λq hq e=>by have:=(H.rw.nc hn).2;omega));have LZ:=uU (show(eU x i).cells.length=x.cells.length by rw[<-uH EZ];simp)
   have SZ0:=uU (show((eU x i).c i).st=0 by
    have:=Hp.c_set x i ⟨0,0,0,0,0,0,0,[]⟩ hin i;rw[<-uH EZ];have e2:({ x with cells:=x.cells.set i ⟨0,0,0,0,0,0,0,[]⟩,hand:=(i:Int) }:Hp).c i=({ x with cells:=x.cells.set i ⟨0,0,0,0,0,0,0,[]⟩ }:Hp).c i:=rfl;rw[e2,this,if_pos rfl])
   unfold zY at hWZ;go_wp2_with fail;rw[<-hWZ];clear hWZ c4 c6 p0 hgW hbc f4 r0 r1 r2 r3 r4 r5 r6 r7 fc;have c4:=GZ.bx.2.2.2.2.1;rw[H.hc hn,uH LZ] at c4;have c6:WZ.cell? ⟨g,6,none⟩=some (iv i):=GZ.bx.2.2.2.2.2.2.1;have p0:WZ.cell? ⟨bc,i*8,none⟩=some (iv 0):=by have:=(GZ.rw.s i (by rw[uH LZ];exact hin)).1;rw[uH SZ0] at this;exact this
   have f4:=GZ.nf.2 4;have hgW:g<WZ.heap.size:=uL c6;have hbc:bc<WZ.heap.size:=uL p0;cases qL:((i:Int) == (x.cells.length:Int)-1)
   ·have EF:=uU (show dZ x=eU x i by rw[uH EU];unfold zX;rw[if_neg];intro e;have:=e.1;rw[uH LZ] at this;simp at qL;omega);go_quiet (fail);go_wp2_with fail
    go_end0
    exact⟨rfl,by rw[uH EF];exact⟨_,_,_,_,_,_,_,_,_,_,_,GZ.ext ((Ext.refl WZ).drewN _)⟩,XZ.drewN _⟩
   ·skip
    have EF:=uU (show dZ x={ eU x i with cells:=(eU x i).cells.take i } by rw[uH EU];unfold zX;rw[if_pos ⟨by rw[uH LZ];simp at qL;omega,SZ0⟩])
    have FN:=uU (show ∀n,GOk B ((WZ.drewN n).setCell ⟨g,4,none⟩ (.slice (some ⟨bc,0,none⟩) i kc)) g { eU x i with cells:=(eU x i).cells.take i }/\Ext a ((WZ.drewN n).setCell ⟨g,4,none⟩ (.slice (some ⟨bc,0,none⟩) i kc)) from λn=>by
     have g1:=(GZ.ext ((Ext.refl WZ).drewN n)).drop i (by rw[uH LZ];simp at qL;omega);rw[H.hc hn] at g1;exact⟨g1,(XZ.drewN n).setCell (p:=⟨g,4,none⟩) (show a.heap.size<=g by omega) _⟩)
    have kl:(i:Int)<=(kc:Int):=by have:=H.kl;omega
    go_quiet (fail);go_wp2_with fail
    go_region
    all_goals
     go_wp2_with fail
     go_end0
     exact⟨rfl,by rw[uH EF];exact(FN _).1,(FN _).2⟩
theorem b6t[Inhabited uN](B g:Nat)(x:Hp)(w:World)(h:GOk B w g x)(s:Snd x)(a:World)(ha:a.heap.size<=B)(hx:Ext a w):
  Calls Tryz.prog 192 #[.pointer (some ⟨g,0,none⟩)] w λe w'=>e=.returned (.tuple #[])/\GOk B w' g (dZ x)/\Ext a w':=by
 by_cases h0:x.hand=0
 ·exact b6s B g x w h s a ha hx h0
 ·exact b4z B g x w h s a ha hx (x.hand-1).toNat (by have:=s.r1.hand;omega)
end Go.Proofs.YtddkhnclmeikfaaGreat
