import Derived.Test.YtddkhnclmeikfaaGreatPh
import Derived.Test.YtddkhnclmeikfaaGreatPl
import Derived.Test.YtddkhnclmeikfaaGreatPs
set_option maxRecDepth 100000
set_option maxHeartbeats 1000000
namespace Go.Proofs.YtddkhnclmeikfaaGreat
open Go.RowKit
attribute [local go_sem ↓] Go.wp_at_zero Go.wp_at_succ
variable{x y:Hp}{b B C kr br bn kn hd a c:Nat}{w:World}{ar:Option Addr}{v4 v8 vf vk:Value}{cB cO pb pk role:Nat->Nat}{pa:Nat->Option Addr}{F:List Int}{K:List Nat}{cd nm:Int}
theorem b8a[Inhabited uN](h:SAt B w b x ar kr v4 v8 br cB cO bn pb pa pk kn hd vf F vk K role)(s:Snd x)(hp:x.phase=3)(i:Nat)(hi:x.hand=(i:Int))(hin:i<x.cells.length)(hs:whB (x.c i)=true)(ho:Ho F)(hl:F.length<=1000000000)(a:World)(ha:a.heap.size<=B)(hx:Ext a w):
  Calls Tryz.prog 331 #[.agg #[.pointer (some ⟨b,0,none⟩)]] w λe w'=>e=.returned (zV (dE x).phase b)/\Hid (∃pa' pk' vf' F' role',SAt B w' b (dE x) ar kr v4 v8 br cB cO bn pb pa' pk' kn hd vf' F' vk K role'/\Ho F'/\F'.Perm ((i:Int)::F))/\Ext a w':=by
 have ei:x.hand.toNat=i:=by omega
 have E:=uU (show dE x={ x with used:=x.used-(1+(x.c i).prs.length),cells:=x.cells.set i Cl0,hand:=(i:Int)+1 } by
  unfold dE;rw[if_neg (by omega),ei,if_pos hs,hi])
 have EP:=uU (show(dE x).phase=3 by rw[uH E];exact hp)
 have V:=uU (show IntKind.i64.wrap (x.used-(1+((x.c i).prs.length:Int)))=x.used-(1+((x.c i).prs.length:Int)) by
  have hlp:=s.ok.p200 i hin;have hu1:x.used<=4000:=by have:=s.r3.2;have:=s.r1.room;omega
  have hu0:0<=x.used:=by have:=s.r3.1;omega
  rw[IntKind.wrap_i64];omega)
 have LP:=uU (s.ok.p200 i hin);have H:=uU h;have n8:=s.ok.n8;have XA:=(Ext.refl w).alloc (.cells #[.pointer (some ⟨b,0,none⟩)] 235);have c6:=h.sb.bx.2.2.2.2.2.2.1;rw[hi] at c6;have QA:=uU (a1k b x.cells.length kn bn i _ (XA.keep c6) (XA.keep h.sb.n13) hin);have XA2:=uU XA;have hbw:b<w.heap.size:=h.sb.nb.1;have lo:=h.sb.lo.1;have hn:0<x.cells.length:=by omega
 have HI:=uU hi;have WH:=uU hs;have HBC:=uU (h.rw.nc i hin);have FOW:=uU (show ∀q,vf.ownBlock=some q->q<w.heap.size from λq hq=>(h.sb.fr.own.lt q hq).2);have HO:=uU (And.intro ho hl);clear h hp XA hi c6 ei hs s ho hl;go_enter Tryz.func331,Tryz.ntmps331;go_wp2_with fail;refine QA.mono ?_;rintro e w1 ⟨rfl,x1⟩;have r0:w1.cell? ⟨w.heap.size,0,none⟩=some (.pointer (some ⟨b,0,none⟩)):=x1.keep (by simp [go_sem]);have X1:=uU (XA2.trans x1);have H1:=uU (H.ext X1);have m1:=(H1.sb.nd i hin).2;have QS:=uU (a5h (x.c i) bn i (cB i) (cO i) w1 m1 (H1.rw.s i hin));rw[uH WH] at QS;clear x1 XA2 QA;go_wp2_with fail;refine QS.mono ?_;rintro e w2 ⟨rfl,hw2⟩;subst hw2;have c1:=H1.sb.bx.2.1;have f1:=H1.sb.nb.2 1;have hb1:b<w2.heap.size:=uL c1;have hs2:w.heap.size<w2.heap.size:=uL r0;have nsb:¬w.heap.size=b:=by omega
 have nbs:¬b=w.heap.size:=by omega
 clear m1 QS;go_wp2_with fail;go_region_with (go_at_call 119;refine(b3x (x.c i) bn (i*2) (cB i) (cO i) (pa i) (pk i) _ (H1.ext (Ext.refl w2).drew |>.sb.nd i hin).2 (H1.ext (Ext.refl w2).drew |>.rw.p7 i hin) (by have:=uH LP;omega)).mono ?_;rintro e w3 ⟨rfl,hw3⟩;subst hw3)
 all_goals
  rw[uH V];obtain⟨W3,hW3⟩:∃W,W=(w2.setCell ⟨b,1,none⟩ (iv (x.used-(1+((x.c i).prs.length:Int))))).drew:=⟨_,rfl⟩;have H3:=uU (show SAt B W3 b { x with used:=x.used-(1+((x.c i).prs.length:Int)) } ar kr v4 v8 br cB cO bn pb pa pk kn hd vf F vk K role by rw[hW3];exact(H1.usedTo _).ext (Ext.refl _).drew);have X3:=uU (show Ext a W3 by rw[hW3];exact((hx.trans X1).setCell (p:=⟨b,1,none⟩) (show a.heap.size<=b by omega) _).drew);have r3:W3.cell? ⟨w.heap.size,0,none⟩=some (.pointer (some ⟨b,0,none⟩)):=by rw[hW3,a0w,uC _ (.inl nbs)];exact r0
  rw[<-hW3];clear hW3 c1 f1 r0 hs2 hb1;have hs3:w.heap.size<W3.heap.size:=uL r3;go_wp2_with fail;refine(a9h H3 i hin HO.1 HO.2 a ha X3).mono ?_;rintro e w4 ⟨rfl,g4,x4⟩;obtain⟨pa',pk',vf',F',role',H4,ho4,pm4⟩:=g4.1;have r4:w4.cell? ⟨w.heap.size,0,none⟩=some (.pointer (some ⟨b,0,none⟩)):=(World.cell?_of_block (a:=⟨w.heap.size,0,none⟩) (g4.2 w.heap.size hs3 nsb (by have:=HBC.1.1;omega) (λe=>Nat.lt_irrefl _ (FOW _ e)))).trans r3;have c6:w4.cell? ⟨b,6,none⟩=some (iv i):=by have:=H4.sb.bx.2.2.2.2.2.2.1;exact this.trans (by rw[uH HI])
  have f6:=H4.sb.nb.2 6;have hb4:b<w4.heap.size:=uL c6;have hs4:w.heap.size<w4.heap.size:=uL r4;have FN:=uU (And.intro (H4.hand ((i:Int)+1)) (And.intro ho4 pm4));have XN:=uU (x4.setCell (p:=⟨b,6,none⟩) (show a.heap.size<=b by omega) (iv ((i:Int)+1)));clear g4 H4 r3 hs3 ho4 pm4 x4;go_wp2_with fail;go_ret;exact⟨by rw[uH EP];rfl,by rw[uH E];exact⟨_,_,_,_,_,FN⟩,XN⟩
theorem c7u[Inhabited uN](h:SAt B w b x ar kr v4 v8 br cB cO bn pb pa pk kn hd vf F vk K role)(hp:x.phase=6)(he:x.hand=0)(hr:0<=x.rounds/\x.rounds<=1000000000)(a:World)(ha:a.heap.size<=B)(hx:Ext a w):
  Calls Tryz.prog 336 #[.agg #[.pointer (some ⟨b,0,none⟩)]] w λe w'=>e=.returned (zV (dZ x).phase b)/\Hid (SAt B w' b (dZ x) ar kr v4 v8 br cB cO bn pb pa pk kn hd vf F vk K role)/\Ext a w':=by
 have E:=uU (show dZ x={ dD x 0 0 with rounds:=if x.rounds<1000000000 then x.rounds+1 else x.rounds } by unfold dZ;rw[if_pos he];rfl);have H:=uU h;have HP:=uU hp;have HR:=uU hr;have c6:=h.sb.bx.2.2.2.2.2.2.1;rw[he] at c6;have hbw:b<w.heap.size:=h.sb.nb.1;have XA2:=uU ((Ext.refl w).alloc (.cells #[.pointer (some ⟨b,0,none⟩)] 238));clear h hp he hr;go_enter Tryz.func336,Tryz.ntmps336;go_wp2_with fail;refine(turn_6 (H.ext XA2) HP HR a ha (hx.trans XA2)).mono ?_;rintro e w2 ⟨rfl,h2,x2⟩;go_wp2_with fail;go_ret;exact⟨by rw[uH E];rfl,by rw[uH E];exact uH h2,x2⟩
theorem c4e[Inhabited uN](h:SAt B w b x ar kr v4 v8 br cB cO bn pb pa pk kn hd vf F vk K role)(n8:x.cells.length<=8000)(hp:x.phase=6)(i:Nat)(hi:x.hand=(i:Int)+1)(hin:i<x.cells.length)(hk:x.cells.length<=kn)(ho:Ho F)(hl:F.length<=1000000000)(a:World)(ha:a.heap.size<=B)(hx:Ext a w):
  Calls Tryz.prog 336 #[.agg #[.pointer (some ⟨b,0,none⟩)]] w λe w'=>e=.returned (zV (dZ x).phase b)/\Hid (∃pa' pk' vf' F' role',SAt B w' b (dZ x) ar kr v4 v8 br cB cO bn pb pa' pk' kn hd vf' F' vk K role'/\Ho F'/\(((x.c i).st=2/\F'.Perm ((i:Int)::F))\/((x.c i).st≠2/\F'=F)))/\Ext a w':=by
 have EU:=uU (show dZ x=zX (eU x i) i by unfold dZ;rw[if_neg (by omega),show(x.hand-1).toNat=i by omega]);have EP:=uU (show(dZ x).phase=6 by rw[uH EU];unfold zX;split <;> (unfold eU;exact hp));have hbw:b<w.heap.size:=h.sb.nb.1;have lo:=h.sb.lo.1;have H:=uU h;have XA:=(Ext.refl w).alloc (.cells #[.pointer (some ⟨b,0,none⟩)] 238);have XA2:=uU XA;have c6:=h.sb.bx.2.2.2.2.2.2.1;rw[hi] at c6;have f6:=h.sb.nb.2 6;have hi0:((i:Int)+1 == 0)=false:=by simp;omega
 have HBC:=uU (h.rw.nc i hin);have FOW:=uU (show ∀q,vf.ownBlock=some q->q<w.heap.size from λq hq=>(h.sb.fr.own.lt q hq).2);have HO:=uU (And.intro ho hl);have nsb:¬w.heap.size=b:=by omega
 have nbs:¬b=w.heap.size:=by omega
 clear h hp hi XA ho hl;go_enter Tryz.func336,Tryz.ntmps336;go_wp2_with fail;obtain⟨W1,hW1⟩:∃W,W=(w.setCell ⟨b,6,none⟩ (iv i)).alloc (.cells #[.pointer (some ⟨b,0,none⟩)] 238):=⟨_,rfl⟩;have H1:=uU (show SAt B W1 b { x with hand:=(i:Int) } ar kr v4 v8 br cB cO bn pb pa pk kn hd vf F vk K role by rw[hW1];exact(H.hand (i:Int)).ext ((Ext.refl _).alloc _));have X1:=uU (show Ext a W1 by rw[hW1];exact(hx.setCell (p:=⟨b,6,none⟩) (show a.heap.size<=b by omega) _).alloc _)
 have r1:W1.cell? ⟨w.heap.size,0,none⟩=some (.pointer (some ⟨b,0,none⟩)):=by
  rw[hW1];have:w.heap.size=(w.setCell ⟨b,6,none⟩ (iv i)).heap.size:=by simp [World.setCell]
  rw[this];simp [go_sem]
 rw[<-hW1];clear hW1 c6 f6;refine(a1k b x.cells.length kn bn i _ H1.sb.bx.2.2.2.2.2.2.1 H1.sb.n13 hin).mono ?_;rintro e w2 ⟨rfl,x2⟩;have H2:=uU (H1.ext x2);have X2:=uU (X1.trans x2);have r2:=x2.keep r1;obtain⟨m0,m1⟩:=H2.sb.nd i hin;have p0:w2.cell? ⟨cB i,cO i,none⟩=some (iv (x.c i).st):=(H2.rw.s i hin).1;have hs2:w.heap.size<w2.heap.size:=uL r2;clear r1 x2 H1 X1;cases q2:((x.c i).st == 2)
 ·have ES:=uU (show dZ x=zX { x with hand:=(i:Int) } i by rw[uH EU];unfold eU;rw[if_neg (by simpa using q2)]);have NS:=uU (show(x.c i).st≠2 by simpa using q2);have n13:w2.cell? ⟨b,13,none⟩=some (.slice (some ⟨bn,0,none⟩) x.cells.length kn):=H2.sb.n13;go_wp2_with fail;clear q2;by_cases hlast:i+1=x.cells.length
  ·cases q0:((x.c i).st == 0)
   ·skip
    have EF:=uU (show dZ x={ x with cells:=x.cells,hand:=(i:Int) } by rw[uH ES];unfold zX;rw[if_neg (λe=>by have:=e.2;simp at q0;exact q0 this)]);have g1:((i:Int) == (x.cells.length:Int)-1)=true:=by simp;omega
    go_quiet (fail);go_wp2_with fail;go_ret;exact⟨by rw[uH EP];rfl,by rw[uH EF];exact⟨_,_,_,_,_,H2.ext ((Ext.refl _).drewN _),HO.1,Or.inr ⟨NS,rfl⟩⟩,X2.drewN _⟩
   ·skip
    have EF:=uU (show dZ x={ x with cells:=(x.cells).take i,hand:=(i:Int) } by rw[uH ES];unfold zX;rw[if_pos ⟨by simpa using hlast,(show(x.c i).st=0 by simpa using q0)⟩]);have g1:((i:Int) == (x.cells.length:Int)-1)=true:=by simp;omega
    have k1:(i:Int)<=(kn:Int):=by omega
    have k0:(0:Int)<=(i:Int):=by omega
    have f13:=H2.sb.nb.2 13;have hbW:b<w2.heap.size:=H2.sb.nb.1;have FN:=uU (show ∀W',Ext w2 W'->SAt B (W'.setCell ⟨b,13,none⟩ (.slice (some ⟨bn,0,none⟩) i kn)) b { x with cells:=(x.cells).take i,hand:=(i:Int) } ar kr v4 v8 br cB cO bn pb pa pk kn hd vf F vk K role/\Ext a (W'.setCell ⟨b,13,none⟩ (.slice (some ⟨bn,0,none⟩) i kn)) from λW' xw=>⟨(H2.ext xw).drop i (by simpa using hlast),(X2.trans xw).setCell (p:=⟨b,13,none⟩) (show a.heap.size<=b by omega) _⟩);clear hlast;go_quiet (fail);obtain⟨d1,hd1⟩:∃m,m=nq:=⟨_,rfl⟩;go_wp2_with fail
    go_region
    all_goals
     go_wp2_with fail;go_ret
     first | exact⟨by rw[uH EP];rfl,by rw[uH EF];exact⟨_,_,_,_,_,((FN _ ((Ext.refl _).drewN _)).1).ext (Ext.refl _).drew,HO.1,Or.inr ⟨NS,rfl⟩⟩,((FN _ ((Ext.refl _).drewN _)).2).drew⟩ | exact⟨by rw[uH EP];rfl,by rw[uH EF];exact⟨_,_,_,_,_,(FN _ ((Ext.refl _).drewN _)).1,HO.1,Or.inr ⟨NS,rfl⟩⟩,(FN _ ((Ext.refl _).drewN _)).2⟩
  ·skip
   have EF:=uU (show dZ x={ x with cells:=x.cells,hand:=(i:Int) } by rw[uH ES];unfold zX;rw[if_neg (λe=>hlast (by simpa using e.1))]);have g1:((i:Int) == (x.cells.length:Int)-1)=false:=by simp;omega
   go_quiet (fail);go_wp2_with fail;go_ret;exact⟨by rw[uH EP];rfl,by rw[uH EF];exact⟨_,_,_,_,_,H2.ext ((Ext.refl _).drewN _),HO.1,Or.inr ⟨NS,rfl⟩⟩,X2.drewN _⟩
 ·have ES:=uU (show dZ x=zX { x with cells:=x.cells.set i Cl0,hand:=(i:Int) } i by rw[uH EU];unfold eU;rw[if_pos (by simpa using q2)]);have NS:=uU (show(x.c i).st=2 by simpa using q2);go_wp2_with fail;refine(a9h H2 i hin HO.1 HO.2 a ha X2).mono ?_;rintro e w3 ⟨rfl,g3,x3⟩;obtain⟨pa',pk',vf',F',role',h3,ho3,pm3⟩:=g3.1;have r3:w3.cell? ⟨w.heap.size,0,none⟩=some (.pointer (some ⟨b,0,none⟩)):=(World.cell?_of_block (a:=⟨w.heap.size,0,none⟩) (g3.2 w.heap.size hs2 nsb (by have:=HBC.1.1;omega) (λe=>Nat.lt_irrefl _ (FOW _ e)))).trans r2;have H3:=uU (show SAt B w3 b { x with cells:=x.cells.set i Cl0,hand:=(i:Int) } ar kr v4 v8 br cB cO bn pb pa' pk' kn hd vf' F' vk K role' from h3);have X3:=uU x3;have HP3:=uU (And.intro ho3 pm3);clear g3 x3 h3 ho3 pm3 m0 m1 p0 r2 hs2 H2 X2 q2;have hl3:(x.cells.set i Cl0).length=x.cells.length:=by simp
  obtain⟨m0,m1⟩:=H3.sb.nd i (by rw[hl3];exact hin)
  have p0:w3.cell? ⟨cB i,cO i,none⟩=some (iv 0):=by
   have:=(H3.rw.s i (by rw[hl3];exact hin)).1;exact this.trans (by simp [Hp.c,hin];rfl)
  have n13:w3.cell? ⟨b,13,none⟩=some (.slice (some ⟨bn,0,none⟩) x.cells.length kn):=by have:=H3.sb.n13;rw[hl3] at this;exact this
  have hs3:w.heap.size<w3.heap.size:=uL r3;clear hl3;go_wp2_with fail;by_cases hlast:i+1=x.cells.length
  ·skip
   have EF:=uU (show dZ x={ x with cells:=(x.cells.set i Cl0).take i,hand:=(i:Int) } by rw[uH ES];unfold zX;rw[if_pos ⟨by simpa using hlast,by simp [Hp.c,hin];rfl⟩]);have g1:((i:Int) == (x.cells.length:Int)-1)=true:=by simp;omega
   have k1:(i:Int)<=(kn:Int):=by omega
   have k0:(0:Int)<=(i:Int):=by omega
   have f13:=H3.sb.nb.2 13;have hbW:b<w3.heap.size:=H3.sb.nb.1;have FN:=uU (show ∀W',Ext w3 W'->SAt B (W'.setCell ⟨b,13,none⟩ (.slice (some ⟨bn,0,none⟩) i kn)) b { x with cells:=(x.cells.set i Cl0).take i,hand:=(i:Int) } ar kr v4 v8 br cB cO bn pb pa' pk' kn hd vf' F' vk K role'/\Ext a (W'.setCell ⟨b,13,none⟩ (.slice (some ⟨bn,0,none⟩) i kn)) from λW' xw=>⟨(H3.ext xw).drop i (by simpa using hlast),(X3.trans xw).setCell (p:=⟨b,13,none⟩) (show a.heap.size<=b by omega) _⟩);clear hlast;go_quiet (fail);obtain⟨d1,hd1⟩:∃m,m=nq:=⟨_,rfl⟩;go_wp2_with fail
   go_region
   all_goals
    go_wp2_with fail;go_ret
    first | exact⟨by rw[uH EP];rfl,by rw[uH EF];exact⟨_,_,_,_,_,((FN _ ((Ext.refl _).drewN _)).1).ext (Ext.refl _).drew,HP3.1,Or.inl ⟨NS,HP3.2⟩⟩,((FN _ ((Ext.refl _).drewN _)).2).drew⟩ | exact⟨by rw[uH EP];rfl,by rw[uH EF];exact⟨_,_,_,_,_,(FN _ ((Ext.refl _).drewN _)).1,HP3.1,Or.inl ⟨NS,HP3.2⟩⟩,(FN _ ((Ext.refl _).drewN _)).2⟩
  ·skip
   have EF:=uU (show dZ x={ x with cells:=x.cells.set i Cl0,hand:=(i:Int) } by rw[uH ES];unfold zX;rw[if_neg (λe=>hlast (by simpa using e.1))]);have g1:((i:Int) == (x.cells.length:Int)-1)=false:=by simp;omega
   go_quiet (fail);go_wp2_with fail;go_ret;exact⟨by rw[uH EP];rfl,by rw[uH EF];exact⟨_,_,_,_,_,H3.ext ((Ext.refl _).drewN _),HP3.1,Or.inl ⟨NS,HP3.2⟩⟩,X3.drewN _⟩
def SOq[Inhabited uN](C B:Nat)(w:World)(b:Nat)(x:Hp):Prop:=∃ar kr a4 n4 k4 a8 m8 k8 br cB cO bn pb pa pk kn hd vf F vk K role,SAt B w b x ar kr (.slice a4 n4 k4) (.slice a8 m8 k8) br cB cO bn pb pa pk kn hd vf F vk K role/\zJ C x F K/\2*x.room<=(kn:Int)/\(default:uN).z bn=none
theorem a6r(x:Hp)(y:Wd):(uY x y).room=x.room:=by
 unfold uY
 split
 ·exact(dH x _).1
 ·rfl
theorem b0g:∀(ys:List Wd) (z:Hp),(ys.foldl uY z).room=z.room
 | [],_=>rfl
 | y::ys,z=>(b0g ys (uY z y)).trans (a6r z y)
theorem uroom1(x:Hp):(qC x).room=x.room:=by
 unfold qC
 split
 ·rfl
 ·by_cases e:tJ (x.c x.hand.toNat)=true
  ·simp only [if_pos e];exact(dH x _).1
  ·simp only [if_neg e]
theorem uroom2(x:Hp):(eC x).room=x.room:=by
 unfold eC
 split
 ·split
  ·exact(a6r _ _).trans (a6r _ _)
  ·rfl
 ·split
  ·exact b0g x.regs x
  ·exact b0g x.regs x
theorem b5v(x:Hp):(dE x).room=x.room:=by
 unfold dE
 split
 ·rfl
 ·split <;> rfl
theorem uroom4(x:Hp):(unit4 x).room=x.room:=by
 unfold unit4
 split <;> rfl
theorem uroom5(x:Hp):(eK x).room=x.room:=by
 unfold eK
 split
 ·rfl
 ·split <;> rfl
theorem c7v(x:Hp):(dZ x).room=x.room:=by
 unfold dZ zX
 split
 ·rfl
 ·split <;> rfl
theorem c4f[Inhabited uN](h:SOq C B w b x)(s:Snd x)(hp:x.phase=1)(a:World)(ha:a.heap.size<=B)(hx:Ext a w):
  Calls Tryz.prog 328 #[.agg #[.pointer (some ⟨b,0,none⟩)]] w λe w'=>e=.returned (zV (qC x).phase b)/\Hid (SOq C B w' b (qC x))/\Ext a w':=by
 obtain⟨ar,kr,a4,n4,k4,a8,m8,k8,br,cB,cO,bn,pb,pa,pk,kn,hd,vf,F,vk,K,role,h,i,hk⟩:=h;have hh:=s.r1.hand;have lk:2*(qC x).room<=(kn:Int)/\(default:uN).z bn=none:=by rw[uroom1];exact hk
 by_cases he:x.hand=x.cells.length
 ·refine(c3q h hp he a ha hx).mono ?_;rintro e w' ⟨rfl,h2,x2⟩;exact⟨rfl,⟨_,_,_,_,_,_,_,_,_,_,_,_,_,_,_,_,_,_,_,_,_,_,h2,inv1 i hp,lk⟩,x2⟩
 ·refine(c0c h s hp x.hand.toNat (by omega) (by omega) a ha hx).mono ?_;rintro e w' ⟨rfl,h2,x2⟩;exact⟨rfl,⟨_,_,_,_,_,_,_,_,_,_,_,_,_,_,_,_,_,_,_,_,_,_,h2,inv1 i hp,lk⟩,x2⟩
theorem c4g[Inhabited uN]{C B:Nat}{w:World}{b:Nat}{x:Hp}(h:SOq C B w b x)(s:Snd x)(hp:x.phase=2)(a:World)(ha:a.heap.size<=B)(hx:Ext a w):
  Calls Tryz.prog 329 #[.agg #[.pointer (some ⟨b,0,none⟩)]] w λe w'=>e=.returned (zV (eC x).phase b)/\Hid (SOq C B w' b (eC x))/\Ext a w':=by
 obtain⟨ar,kr,a4,n4,k4,a8,m8,k8,br,cB,cO,bn,pb,pa,pk,kn,hd,vf,F,vk,K,role,h,i,hk⟩:=h;have hh:=s.r1.sub;have n8:=s.ok.n8;have lk:2*(eC x).room<=(kn:Int)/\(default:uN).z bn=none:=by rw[uroom2];exact hk
 cases hg:x.gray with
 | nil=>
  refine(c4b h s hp hg a ha hx).mono ?_;rintro e w' ⟨rfl,h2,x2⟩;exact⟨rfl,⟨_,_,_,_,_,_,_,_,_,_,_,_,_,_,_,_,_,_,_,_,_,_,h2,inv2 i hp n8,lk⟩,x2⟩
 | cons g G=>
  obtain⟨g0,g1⟩:=s.r5.2.2 g (by rw[hg];simp);obtain⟨j,rfl⟩:∃j:Nat,g=(j:Int):=⟨g.toNat,by omega⟩;by_cases hs:x.sub<((x.c j).prs.length:Int)
  ·refine(c4a h s hp j G hg (by omega) x.sub.toNat (by omega) (by omega) a ha hx).mono ?_;rintro e w' ⟨rfl,h2,x2⟩;exact⟨rfl,⟨_,_,_,_,_,_,_,_,_,_,_,_,_,_,_,_,_,_,_,_,_,_,h2,inv2 i hp n8,lk⟩,x2⟩
  ·refine(c0f h n8 hp j G hg (by omega) hs a ha hx).mono ?_;rintro e w' ⟨rfl,h2,x2⟩;exact⟨rfl,⟨_,_,_,_,_,_,_,_,_,_,_,_,_,_,_,_,_,_,_,_,_,_,h2,inv2 i hp n8,lk⟩,x2⟩
theorem c4h[Inhabited uN](h:SOq C B w b x)(hC:C<=1000000000)(s:Snd x)(hp:x.phase=3)(a:World)(ha:a.heap.size<=B)(hx:Ext a w):
  Calls Tryz.prog 331 #[.agg #[.pointer (some ⟨b,0,none⟩)]] w λe w'=>e=.returned (zV (dE x).phase b)/\Hid (SOq C B w' b (dE x))/\Ext a w':=by
 obtain⟨ar,kr,a4,n4,k4,a8,m8,k8,br,cB,cO,bn,pb,pa,pk,kn,hd,vf,F,vk,K,role,h,iv,hk⟩:=h;have hh:=s.r1.hand;have n8:=s.ok.n8;by_cases he:x.hand=x.cells.length
 ·have e3:dE x=dD x 4 0:=by unfold dE;rw[if_pos he]
  refine(c4c h hp he a ha hx).mono ?_;rintro e w' ⟨rfl,h2,x2⟩;exact⟨rfl,⟨_,_,_,_,_,_,_,_,_,_,_,_,_,_,_,_,_,_,_,_,_,_,h2,by rw[e3];exact c7c iv hp he,by rw[b5v];exact hk⟩,x2⟩
 ·obtain⟨i,hi⟩:∃i:Nat,x.hand=(i:Int):=⟨x.hand.toNat,by omega⟩;have hin:i<x.cells.length:=by omega
  have ei:x.hand.toNat=i:=by omega
  cases q1:((x.c i).st == 1)
  ·have qn:(x.c i).st≠1:=by simpa using q1
   have e3:=b3a s i hi hin qn;have hv:=b0f (z:=dE x) iv hp (by rw[e3];exact hp) i hi hin (by rw[e3]) (by rw[e3]) (λq _=>by rw[e3];rfl) iv.ho (.inl ⟨rfl,by rw[e3];exact id⟩);rw[if_neg (by rw[e3];exact qn),List.append_nil] at hv;refine(c0h h s hp i hi hin q1 a ha hx).mono ?_;rintro e w' ⟨rfl,h2,x2⟩;exact⟨rfl,⟨_,_,_,_,_,_,_,_,_,_,_,_,_,_,_,_,_,_,_,_,_,_,h2,hv,by rw[b5v];exact hk⟩,x2⟩
  ·have q1':(x.c i).st=1:=by simpa using q1
   cases q0:((x.c i).color == 0)
   ·have e3:dE x={ x with cells:=x.cells.set i (a1u (x.c i)),hand:=(i:Int)+1 }:=by
     unfold dE;rw[if_neg he,ei,if_neg (by simp [whB,q0]),hi]
    have cs:∀q,(dE x).c q=if q=i then a1u (x.c i) else x.c q:=λq=>by
     rw[e3];exact Hp.c_set x i (a1u (x.c i)) hin q
    have hv:=b0f (z:=dE x) iv hp (by rw[e3];exact hp) i hi hin (by rw[e3]) (by rw[e3];simp) (λq hq=>by rw[cs,if_neg hq]) iv.ho (.inl ⟨rfl,by rw[cs,if_pos rfl];exact id⟩);rw[if_pos (by rw[cs,if_pos rfl];exact q1')] at hv
    have hK:K.length<=8000:=by
     have k3:=iv.k3 hp;have:=b1o x.cells.length K (k3.1.imp (λh=>Nat.ne_of_lt h)) (λq hq=>by have:=(k3.2.1 q hq).1;omega);omega
    refine(c0i h n8 hp i hi hin q1 q0 hK a ha hx).mono ?_;rintro e w' ⟨rfl,h2,x2⟩;obtain⟨vk',role',h2⟩:=uH h2;exact⟨rfl,⟨_,_,_,_,_,_,_,_,_,_,_,_,_,_,_,_,_,_,_,_,_,_,h2,hv,by rw[b5v];exact hk⟩,x2⟩
   ·have wh:whB (x.c i)=true:=by simp [whB,q1,q0]
    have e3:dE x={ x with used:=x.used-(1+(x.c i).prs.length),cells:=x.cells.set i Cl0,hand:=(i:Int)+1 }:=by
     unfold dE;rw[if_neg he,ei,if_pos wh,hi]
    have cs:∀q,(dE x).c q=if q=i then Cl0 else x.c q:=λq=>by
     rw[e3];exact Hp.c_set x i Cl0 hin q
    refine(b8a h s hp i hi hin wh iv.ho (by have:=iv.le;omega) a ha hx).mono ?_;rintro e w' ⟨rfl,h2,x2⟩;obtain⟨pa',pk',vf',F',role',h2,ho2,pm⟩:=uH h2;have hv:=b0f (z:=dE x) iv hp (by rw[e3];exact hp) i hi hin (by rw[e3]) (by rw[e3];simp) (λq hq=>by rw[cs,if_neg hq]) ho2 (.inr pm);rw[if_neg (by rw[cs,if_pos rfl];simp [Cl0]),List.append_nil] at hv;exact⟨rfl,⟨_,_,_,_,_,_,_,_,_,_,_,_,_,_,_,_,_,_,_,_,_,_,h2,hv,by rw[b5v];exact hk⟩,x2⟩
theorem c4i[Inhabited uN](h:SOq C B w b x)(hC:C<=1000000000)(s:Snd x)(hp:x.phase=4)(a:World)(ha:a.heap.size<=B)(hx:Ext a w):
  Calls Tryz.prog 333 #[.agg #[.pointer (some ⟨b,0,none⟩)]] w λe w'=>e=.returned (zV (unit4 x).phase b)/\Hid (SOq C B w' b (unit4 x))/\Ext a w':=by
 obtain⟨ar,kr,a4,n4,k4,a8,m8,k8,br,cB,cO,bn,pb,pa,pk,kn,hd,vf,F,vk,K,role,h,iv,hk⟩:=h;have lk:2*(unit4 x).room<=(kn:Int)/\(default:uN).z bn=none:=by rw[uroom4];exact hk
 refine(c7r h iv hC s hp a ha hx).mono ?_;rintro e w' ⟨rfl,h2,x2⟩;obtain⟨pb',pa',pk',vf',F',vk',K',role',h2,i2⟩:=uH h2;exact⟨rfl,⟨_,_,_,_,_,_,_,_,_,_,_,_,_,_,_,_,_,_,_,_,_,_,h2,i2,lk⟩,x2⟩
theorem c4j[Inhabited uN](h:SOq C B w b x)(s:Snd x)(hp:x.phase=5)(a:World)(ha:a.heap.size<=B)(hx:Ext a w):
  Calls Tryz.prog 335 #[.agg #[.pointer (some ⟨b,0,none⟩)]] w λe w'=>e=.returned (zV (eK x).phase b)/\Hid (SOq C B w' b (eK x))/\Ext a w':=by
 obtain⟨ar,kr,a4,n4,k4,a8,m8,k8,br,cB,cO,bn,pb,pa,pk,kn,hd,vf,F,vk,K,role,h,i,hk⟩:=h;have hh:=s.r1.hand;have hs:=s.r1.sub;have n8:=s.ok.n8;have lk:2*(eK x).room<=(kn:Int)/\(default:uN).z bn=none:=by rw[uroom5];exact hk
 by_cases he:x.hand=x.cells.length
 ·refine(c7s h hp he a ha hx).mono ?_;rintro e w' ⟨rfl,h2,x2⟩;exact⟨rfl,⟨_,_,_,_,_,_,_,_,_,_,_,_,_,_,_,_,_,_,_,_,_,_,h2,inv5 i hp n8,lk⟩,x2⟩
 ·have hin:x.hand.toNat<x.cells.length:=by omega
  by_cases hkl:x.sub.toNat<(x.c x.hand.toNat).prs.length
  ·have pf:=((s.r4.2 x.hand.toNat hin).2 x.sub.toNat hkl).2 (λd=>by have:=d.1;omega);refine(c3y h hp x.hand.toNat (by omega) hin x.sub.toNat (by omega) hkl s.r2 pf.1.1 pf.2.1 a ha hx).mono ?_;rintro e w' ⟨rfl,h2,x2⟩;exact⟨rfl,⟨_,_,_,_,_,_,_,_,_,_,_,_,_,_,_,_,_,_,_,_,_,_,h2,inv5 i hp n8,lk⟩,x2⟩
  ·refine(c3x h n8 hp x.hand.toNat (by omega) hin x.sub.toNat (by omega) hkl a ha hx).mono ?_;rintro e w' ⟨rfl,h2,x2⟩;exact⟨rfl,⟨_,_,_,_,_,_,_,_,_,_,_,_,_,_,_,_,_,_,_,_,_,_,h2,inv5 i hp n8,lk⟩,x2⟩
theorem c4k[Inhabited uN](h:SOq C B w b x)(hC:C<=1000000000)(s:Snd x)(hp:x.phase=6)(a:World)(ha:a.heap.size<=B)(hx:Ext a w):
  Calls Tryz.prog 336 #[.agg #[.pointer (some ⟨b,0,none⟩)]] w λe w'=>e=.returned (zV (dZ x).phase b)/\Hid (SOq C B w' b (dZ x))/\Ext a w':=by
 obtain⟨ar,kr,a4,n4,k4,a8,m8,k8,br,cB,cO,bn,pb,pa,pk,kn,hd,vf,F,vk,K,role,h,iv,hk⟩:=h;have hh:=s.r1.hand;have n8:=s.ok.n8;by_cases he:x.hand=0
 ·refine(c7u h hp he s.r1.rounds a ha hx).mono ?_;rintro e w' ⟨rfl,h2,x2⟩;have e6:(dZ x).phase=0/\(dZ x).cells=x.cells:=by unfold dZ;rw[if_pos he];exact⟨rfl,rfl⟩
  exact⟨rfl,⟨_,_,_,_,_,_,_,_,_,_,_,_,_,_,_,_,_,_,_,_,_,_,h2,c7d iv hp e6.1 e6.2,by rw[c7v];exact hk⟩,x2⟩
 ·obtain⟨i,hi⟩:∃i:Nat,x.hand=(i:Int)+1:=⟨(x.hand-1).toNat,by omega⟩;have hin:i<x.cells.length:=by omega
  have e6:dZ x=zX (eU x i) i:=by unfold dZ;rw[if_neg (by omega),show(x.hand-1).toNat=i by omega]
  have shl:(eU x i).cells.length=x.cells.length:=by unfold eU;split <;> simp
  have shc:∀q,(eU x i).c q=if q=i/\(x.c i).st=2 then Cl0 else x.c q:=λq=>by
   by_cases e2:(x.c i).st=2
   ·have:(eU x i).c q=({ x with cells:=x.cells.set i Cl0 }:Hp).c q:=by unfold eU;rw[if_pos e2];rfl
    rw[this,Hp.c_set x i Cl0 hin q];by_cases e:q=i
    ·rw[if_pos e,if_pos ⟨e,e2⟩]
    ·rw[if_neg e,if_neg (λh=>e h.1)]
   ·have:(eU x i).c q=x.c q:=by unfold eU;rw[if_neg e2];rfl
    rw[this,if_neg (λh=>e2 h.2)]
  have d1:(dZ x).phase=6/\(dZ x).hand=(i:Int)/\(dZ x).cells.length<=x.cells.length/\∀q,q<(dZ x).cells.length->(dZ x).c q=(eU x i).c q:=by
   rw[e6];unfold zX
   split
   ·refine⟨hp,rfl,by simp [shl];omega,λq hq=>?_⟩;simp at hq;simp only [Hp.c,List.getD_eq_getElem?_getD,List.getElem?_take];rw[if_pos (by omega)]
   ·exact⟨hp,rfl,by rw[shl];omega,λq _=>rfl⟩
  refine(c4e h n8 hp i hi hin (by have:=s.r1.cells;omega) iv.ho (by have:=iv.le;omega) a ha hx).mono ?_;rintro e w' ⟨rfl,h2,x2⟩;obtain⟨pa',pk',vf',F',role',h2,ho2,pm⟩:=uH h2
  have hv:=c3o (z:=dZ x) iv hp d1.1 i hi d1.2.1 d1.2.2.1 (λq hq hne=>by rw[d1.2.2.2 q hq,shc,if_neg (λh=>hne h.1)]) ho2 (by
   rcases pm with⟨_,p⟩ | ⟨n2,p⟩
   ·exact .inr p
   ·exact .inl ⟨p,λhq=>by rw[d1.2.2.2 i hq,shc,if_neg (λh=>n2 h.2)];exact id⟩)
  exact⟨rfl,⟨_,_,_,_,_,_,_,_,_,_,_,_,_,_,_,_,_,_,_,_,_,_,h2,hv,by rw[c7v];exact hk⟩,x2⟩
theorem Snd.scan(h:Snd x)(q:Nat)(hs:dL x=(q:Int)):x.sub<=(x.c q).prs.length:=by
 have h8:=h.r6;unfold dL at hs
 split at hs
 ·rename_i e;have e8:=(h8.2.1 e.1).2.2 (by omega);have:x.g0=q:=by unfold Hp.g0;rw[hs];rfl
  rw[this] at e8;exact e8
 ·split at hs
  ·rename_i e;have a:=h8.2.2.1 e.1;have hq:x.hand.toNat=q:=by omega
   by_cases hc:(x.c x.hand.toNat).st=1
   ·have:=a.2 ⟨by omega,hc⟩;rw[hq] at this;exact this
   ·have:=a.1 (.inr hc);omega
  ·omega
theorem b1a.self(h:Snd x)(i:Nat)(c:Cl)(hi:i<x.cells.length)(s1:(x.c i).st=1)(e:c.st=(x.c i).st/\c.kind=(x.c i).kind/\c.born=(x.c i).born/\c.color=(x.c i).color/\c.to=(x.c i).to)(hp:c.prs=(x.c i).prs)(wk:c.weak=(x.c i).weak\/(0<=c.weak/\c.weak<=3))(la:c.last=(x.c i).last\/(0<=c.last/\c.last<=3))(sp:cY c->cY (x.c i)):b1a x (dV x i c) where
 hl:=b0e x i c
 rest:=a3v.refl _
 c:=λq=>by rw[a2u x i c hi q];split;(· rename_i t;rw[t];exact e);(· exact⟨rfl,rfl,rfl,rfl,rfl⟩)
 wk:=λq=>by rw[a2u x i c hi q];split;(· rename_i t;rw[t];exact wk.imp id (λu=>⟨s1,u⟩));(· exact .inl rfl)
 la:=λq=>by rw[a2u x i c hi q];split;(· rename_i t;rw[t];exact la.imp id (λu=>⟨s1,u⟩));(· exact .inl rfl)
 sp:=λq=>by rw[a2u x i c hi q];split;(· rename_i t;rw[t];exact sp);(· exact id)
 p:=λq hq k hk=>by
  rw[a2u x i c hi q] at hk ⊢
  split at hk
  ·rename_i t;rw[if_pos t,t];exact⟨k,by rw[<-hp];exact hk,by unfold Cl.p;rw[hp],λ_=>Iff.rfl⟩
  ·rename_i t;rw[if_neg t];exact⟨k,hk,rfl,λ_=>Iff.rfl⟩
 le:=λq hq=>by rw[a2u x i c hi q];split;(· rename_i t;rw[t,hp];exact Nat.le_refl _);(· exact Nat.le_refl _)
 us:=by
  have u:dN (dV x i c).cells=dN x.cells:=a3g x.cells i c hi (by rw[Hp.c_eq x i hi];unfold cH;rw[e.1,hp]);rw[u];exact h.r3.1
 ul:=Int.le_refl _
 s0:=⟨h.r1.sub.1,Int.le_refl _⟩
 s1:=λq hq hs=>by
  have k:=h.scan q hs;rw[a2u x i c hi q];split
  ·rename_i t;rw[hp,<-t];exact k
  ·exact k
theorem Snd.weakT(h:Snd x)(i:Nat)(hi:i<x.cells.length)(s1:(x.c i).st=1)(n:Int)(hn:0<=n/\n<=3):Snd (dV x i (c1f (x.c i) n)):=
 h.thin (b1a.self h i _ hi s1 ⟨rfl,rfl,rfl,rfl,rfl⟩ rfl (.inr hn) (.inl rfl) id)
theorem Snd.lastT(h:Snd x)(i:Nat)(hi:i<x.cells.length)(s1:(x.c i).st=1)(n:Int)(hn:n=0\/n=3):Snd (dV x i (a2f (x.c i) n)):=
 h.thin (b1a.self h i _ hi s1 ⟨rfl,rfl,rfl,rfl,rfl⟩ rfl (.inl rfl) (.inr ⟨by show 0<=n;omega,by show n<=3;omega⟩) (λs=>by have s2:n=1\/n=2:=s;omega))
theorem a5i(x:Hp)(i n:Nat)(hi:i<x.cells.length)(q:Nat):(zH x i n).c q=if q=i then a1b (x.c i) n else x.c q:=Hp.c_set x i (a1b (x.c i) n) hi q
theorem c7w(c:Cl)(n k:Nat)(hk:k<(a1b c n).prs.length):(a1b c n).p k=c.p k/\k<n/\k<c.prs.length:=by
 have e:(a1b c n).prs=c.prs.take n:=rfl;rw[e,List.length_take] at hk;refine⟨?_,by omega,by omega⟩;unfold Cl.p;rw[e];simp [show k<n by omega]
theorem b1a.short(h:Snd x)(i n:Nat)(hi:i<x.cells.length)(s1:(x.c i).st=1):b1a x (zH x i n) where
 hl:=by simp [zH]
 rest:=a3v.refl _
 c:=λq=>by rw[a5i x i n hi q];split;(· rename_i t;rw[t];exact⟨rfl,rfl,rfl,rfl,rfl⟩);(· exact⟨rfl,rfl,rfl,rfl,rfl⟩)
 wk:=λq=>by rw[a5i x i n hi q];split;(· rename_i t;rw[t];exact .inl rfl);(· exact .inl rfl)
 la:=λq=>by rw[a5i x i n hi q];split;(· rename_i t;rw[t];exact .inl rfl);(· exact .inl rfl)
 sp:=λq=>by rw[a5i x i n hi q];split;(· rename_i t;rw[t];exact id);(· exact id)
 p:=λq hq k hk=>by
  rw[a5i x i n hi q] at hk ⊢
  split at hk
  ·rename_i t;rw[if_pos t,t];obtain⟨a,b,c⟩:=c7w _ _ _ hk;refine⟨k,c,a,λhs=>?_⟩;show(k:Int)<(if dL x=(i:Int)/\(n:Int)<x.sub then (n:Int) else x.sub)↔_
   split <;> omega
  ·rename_i t;rw[if_neg t];refine⟨k,hk,rfl,λhs=>?_⟩;show(k:Int)<(if dL x=(i:Int)/\(n:Int)<x.sub then (n:Int) else x.sub)↔_;rw[if_neg (λu=>by omega)]
 le:=λq hq=>by
  rw[a5i x i n hi q];split
  ·rename_i t;rw[t];show((x.c i).prs.take n).length<=_;rw[List.length_take];omega
  ·exact Nat.le_refl _
 us:=by
  have u:=a1v x.cells i (a1b (x.c i) n) hi;rw[Hp.c_eq x i hi] at u;have e1:cH (x.c i)=1+(x.c i).prs.length:=by unfold cH;rw[if_pos s1]
  have e2:cH (a1b (x.c i) n)=1+min n (x.c i).prs.length:=by
   unfold cH;show(if (x.c i).st=1 then 1+((x.c i).prs.take n).length else 0)=_;rw[if_pos s1,List.length_take]
  have h3:=h.r3.1;show x.used-(((x.c i).prs.length-n:Nat):Int)=(dN (x.cells.set i (a1b (x.c i) n)):Nat);rw[e1,e2] at u;omega
 ul:=by show x.used-(((x.c i).prs.length-n:Nat):Int)<=x.used;omega
 s0:=by
  have:=h.r1.sub;show 0<=(if dL x=(i:Int)/\(n:Int)<x.sub then (n:Int) else x.sub)/\(if dL x=(i:Int)/\(n:Int)<x.sub then (n:Int) else x.sub)<=x.sub
  split <;> omega
 s1:=λq hq hs=>by
  have k:=h.scan q hs;show(if dL x=(i:Int)/\(n:Int)<x.sub then (n:Int) else x.sub)<=_;rw[a5i x i n hi q];by_cases t:q=i
  ·rw[if_pos t];have e:(a1b (x.c i) n).prs.length=min n (x.c i).prs.length:=List.length_take;rw[e];rw[t] at k hs
   split <;> omega
  ·rw[if_neg t,if_neg (λu=>by omega)];exact k
theorem Snd.short(h:Snd x)(i n:Nat)(hi:i<x.cells.length)(s1:(x.c i).st=1):Snd (zH x i n):=h.thin (b1a.short h i n hi s1)
theorem Snd.res(h:Snd x){u:Wd}{m:Prop}(hl:cN x u m):cN x (qJ x u) False:=by
 unfold qJ
 split
 ·rename_i e;have hlt:u.a.toNat<x.cells.length:=by rcases hl.1 with f | f | f <;> omega
  rcases h.r2.1 _ hlt with⟨a,_⟩ | ⟨_,b⟩ | ⟨a,_⟩
  ·have:=e.2;omega
  ·obtain⟨b1,b2,b3,b4,b5,_⟩:=b;exact⟨.inr (.inr ⟨rfl,rfl,b3,show(x.c u.a.toNat).to<_ by omega⟩),λ_=>.inr ⟨b5,λd=>by have:=d.1;omega⟩⟩
  ·have:=e.2;omega
 ·rename_i e;refine⟨hl.1,λhk=>?_⟩;rcases hl.2 hk with⟨a,_⟩ | ⟨a,b⟩
  ·exact(e ⟨hk,a⟩).elim
  ·exact .inr ⟨a,b⟩
theorem Snd.half(h:Snd x)(i k:Nat)(hi:i<x.cells.length)(nd:¬cU x i)(hk:k<(x.c i).prs.length):cN x (qJ x ((x.c i).p k).key) False/\cN x (qJ x ((x.c i).p k).val) False:=
 let q:=((h.r4.2 i hi).2 k hk).2 nd
 ⟨h.res q.1,h.res q.2⟩
theorem DoR.sndA{n:Int}{k:Nat}(s:Snd x)(ha:a<16)(hb:k≠1->k≠23->b<16)(h23:k=23->b<=64/\c<=4000)(h11:k=11->c<=3)(h12:k=12->c<=1)(hk:k≠1/\k≠9/\k≠18)(h:DoR x a b c n y cd nm k):Snd y:=by
 unfold DoR at h
 split at h
 ·exact absurd rfl hk.1
 ·rw[h.1];exact s.regTo a _ ⟨.inr (.inl ⟨rfl,rfl⟩),λe=>by cases e⟩
 ·rw[h.1];exact s.regTo a _ ⟨.inl ⟨rfl,rfl,rfl⟩,λe=>by cases e⟩
 ·rw[h.1];exact s.regTo a _ (s.reg b (hb (by omega) (by omega)))
 ·have b16:=hb (by omega) (by omega);rcases h with h | h | h
  ·rw[h.2.1];exact s
  ·rw[h.2.2.1];exact s
  ·obtain⟨_,_,p3,_,p5⟩:=s.at b b16 h.1;rw[h.2.2.1];exact s.regTo a _ (s.half _ c p3 p5 h.2.1).1
 ·have b16:=hb (by omega) (by omega);rcases h with h | h | h
  ·rw[h.2.1];exact s
  ·rw[h.2.2.1];exact s
  ·obtain⟨_,_,p3,_,p5⟩:=s.at b b16 h.1;rw[h.2.2.1];exact s.regTo a _ (s.half _ c p3 p5 h.2.1).2
 ·have b16:=hb (by omega) (by omega);rcases h with h | h | h
  ·rw[h.2.1];exact s
  ·rw[h.2.2.1];exact s
  ·obtain⟨_,_,p3,p4,p5⟩:=s.at a ha h.1;rw[h.2.2.1];exact s.put _ c p3 p4 p5 h.2.1 _ (s.reg b b16) ⟨x.r b,((x.c (x.at a)).p c).val⟩ (.inl ⟨rfl,rfl⟩)
 ·have b16:=hb (by omega) (by omega);rcases h with h | h | h
  ·rw[h.2.1];exact s
  ·rw[h.2.2.1];exact s
  ·obtain⟨_,_,p3,p4,p5⟩:=s.at a ha h.1;rw[h.2.2.1];exact s.put _ c p3 p4 p5 h.2.1 _ (s.reg b b16) ⟨((x.c (x.at a)).p c).key,x.r b⟩ (.inr ⟨rfl,rfl⟩)
 ·exact absurd rfl hk.2.1
 ·rcases h with h | h
  ·rw[h.2.1];exact s
  ·obtain⟨_,_,p3,p4,p5⟩:=s.at a ha h.1;rw[h.2.1];exact s.short _ c p3 p4
 ·rcases h with h | h
  ·rw[h.2.1];exact s
  ·obtain⟨_,_,p3,p4,p5⟩:=s.at a ha h.1;have:=h11 rfl;rw[h.2.1];exact s.weakT _ p3 p4 c (by omega)
 ·rcases h with h | h
  ·rw[h.2.1];exact s
  ·obtain⟨_,_,p3,p4,p5⟩:=s.at a ha h.1;have:=h12 rfl;rw[h.2.1]
   split
   ·rename_i e;rw[e];exact s.want _ p3 p4 p5
   ·rename_i e;exact s.lastT _ p3 p4 c (.inl (by omega))
 ·rw[h.1];exact s
 ·rw[h.1];exact s
 ·rw[h.1];exact s
 ·rcases h with h | h
  ·rw[h.2.1];exact s
  ·rw[h.2.1];exact s
 ·rcases h with h | h
  ·rw[h.2.1];exact s
  ·rw[h.2.1];exact s
 ·exact absurd rfl hk.2.2
 ·rcases h.2 with h | ⟨i,h⟩
  ·rw[h.2.1];exact s.regTo a _ ⟨.inl ⟨rfl,rfl,rfl⟩,λe=>by cases e⟩
  ·obtain⟨hi,l2⟩:i<x.cells.length/\(x.c i).last=2:=by
    rcases h.1 with d | ⟨j,e,hj,hl,_⟩
    ·have:=d.1;omega
    ·have e2:i=j:=by omega
     rw[e2];exact⟨hj,hl⟩
   have s1:=a2z s.r2 i hi (.inr l2);have nd:¬cU x i:=λd=>(s.r4.2 i hi).1 ⟨d,.inr l2⟩
   have s2:=s.lastT i hi s1 3 (.inr rfl);rw[h.2.1];refine s2.regTo a _ ⟨.inr (.inr ⟨rfl,rfl,by show(0:Int)<=(i:Int);omega,by show(i:Int)<((dV x i (a2f (x.c i) 3)).cells.length:Nat);rw[b0e];omega⟩),λ_=>.inr ?_⟩;show((dV x i (a2f (x.c i) 3)).c i).st=1/\¬cU (dV x i (a2f (x.c i) 3)) i;unfold cU;rw[a2u x i _ hi i,if_pos rfl];exact⟨s1,nd⟩
 ·rw[h.1];exact s
 ·rw[h.1];exact s
 ·obtain⟨_,_,k,_,e⟩:=h;rw[e];exact(s.stepH _).itU k
 ·have:=h23 rfl;rw[h.1];exact s.paceTo _ _ (by omega) (by omega)
 ·exact h.2.2.snd s
 ·exact h.elim
theorem a6s(x:Hp)(y:Wd):(uY x y).born=x.born:=by
 unfold uY
 split
 ·exact(dH x _).2.2.1
 ·rfl
theorem b0h:∀(ys:List Wd) (z:Hp),(ys.foldl uY z).born=z.born
 | [],_=>rfl
 | y::ys,z=>(b0h ys (uY z y)).trans (a6s z y)
theorem uborn1(x:Hp):(qC x).born=x.born:=by
 unfold qC
 split
 ·rfl
 ·by_cases e:tJ (x.c x.hand.toNat)=true
  ·simp only [if_pos e];exact(dH x _).2.2.1
  ·simp only [if_neg e]
theorem uborn2(x:Hp):(eC x).born=x.born:=by
 unfold eC
 split
 ·split
  ·exact(a6s _ _).trans (a6s _ _)
  ·rfl
 ·split
  ·exact b0h x.regs x
  ·exact b0h x.regs x
theorem uborn3(x:Hp):(dE x).born=x.born:=by
 unfold dE
 split
 ·rfl
 ·split <;> rfl
theorem uborn4(x:Hp):(unit4 x).born=x.born:=by
 unfold unit4
 split <;> rfl
theorem uborn5(x:Hp):(eK x).born=x.born:=by
 unfold eK
 split
 ·rfl
 ·split <;> rfl
theorem uborn6(x:Hp):(dZ x).born=x.born:=by
 unfold dZ zX
 split
 ·rfl
 ·split <;> rfl
theorem b3b(x:Hp):(dK x).born=x.born:=by
 unfold dK
 repeat (first | (split) | exact uborn1 x | exact uborn2 x | exact uborn3 x | exact uborn4 x | exact uborn5 x | exact uborn6 x | rfl)
theorem b3c:∀(k:Nat) (x:Hp),(itU k x).born=x.born
 | 0,_=>rfl
 | k+1,x=>by
  first
   | exact(b3c k (dK x)).trans (b3b x)
   | exact(b3b (itU k x)).trans (b3c k x)
theorem b4m(h:b4x x y):y.born=x.born:=by
 obtain⟨k,_,e⟩:=h;rw[e];exact b3c k x
theorem RdIs.bornE(h:RdIs x y):y.born=x.born:=by
 obtain⟨z,a,b⟩:=h;exact(b4m b).trans (show z.born=x.born from b4m a)
theorem a4h.bornE{u:Nat}(h:a4h x u y):y.born=x.born:=by
 rcases h with h | h
 ·rw[h.2]
 ·exact h.2.bornE
theorem b5n.snd(s:Snd x)(hb:b<=255)(hc:c<=200)(h:b5n x a b c y cd nm):Snd y:=by
 rcases h.2 with h | ⟨nb,z,hz,h | h⟩
 ·rw[h.2.1];exact s
 ·rw[h.2.1];exact hz.snd s
 ·have sz:=hz.snd s;have eb:=hz.bornE;have b1:=s.r1.born;have hu:z.used+(1+c)<=z.room:=by have e:=h.1;unfold a2g at e;have:=of_decide_eq_true e;omega
  obtain⟨s1,s2,s3,s4⟩:=sz.make b c (by omega) hc (by omega) hu;refine h.2.2.snd (s1.regTo a ⟨2,0,cD z⟩ ⟨.inr (.inr ⟨rfl,rfl,by show(0:Int)<=(cD z:Nat);omega,by show((cD z:Nat):Int)<_;omega⟩),λ_=>.inr ⟨s2,s4⟩⟩)
end Go.Proofs.YtddkhnclmeikfaaGreat
