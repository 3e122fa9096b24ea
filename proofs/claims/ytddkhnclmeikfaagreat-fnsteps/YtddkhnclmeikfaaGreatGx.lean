import Derived.Test.YtddkhnclmeikfaaGreatPh
import Derived.Test.YtddkhnclmeikfaaGreatPl
import Derived.Test.YtddkhnclmeikfaaGreatPt
import Derived.Lib.AppendZerosOnto
import Derived.Lib.Walk
set_option maxRecDepth 100000
set_option maxHeartbeats 4000000
namespace Go.Proofs.YtddkhnclmeikfaaGreat
open Go.RowKit
attribute [local go_sem ↓] Go.wp_at_zero Go.wp_at_succ
variable{B b C kr br bn hd kn:Nat}{w:World}{x:Hp}{ar:Option Addr}{v4 v8 vf vk:Value}{cB cO pb pk role:Nat->Nat}{pa:Nat->Option Addr}{F:List Int}{K:List Nat}
theorem c7u[Inhabited uN](h:SAt B w b x ar kr v4 v8 br cB cO bn pb pa pk kn hd vf F vk K role)(hp:x.phase=6)(he:x.hand=0)(hr:0<=x.rounds/\x.rounds<=1000000000)(a:World)(ha:a.heap.size<=B)(hx:Ext a w):
  Calls Tryz.prog 336 #[.agg #[.pointer (some ⟨b,0,none⟩)]] w λe w'=>e=.returned (zV (dZ x).phase b)/\Hid (SAt B w' b (dZ x) ar kr v4 v8 br cB cO bn pb pa pk kn hd vf F vk K role)/\Ext a w':=by
 have E:=uU (show dZ x={ dD x 0 0 with rounds:=if x.rounds<1000000000 then x.rounds+1 else x.rounds } by unfold dZ;rw[if_pos he];rfl);have H:=uU h;have HP:=uU hp;have HR:=uU hr;have c6:=h.sb.bx.2.2.2.2.2.2.1;rw[he] at c6;have hbw:b<w.heap.size:=h.sb.nb.1;have XA2:=uU ((Ext.refl w).alloc (.cells #[.pointer (some ⟨b,0,none⟩)] 238));clear h hp he hr;go_enter Tryz.func336,Tryz.ntmps336;go_wp2_with fail;refine(turn_6 (H.ext XA2) HP HR a ha (hx.trans XA2)).mono ?_;rintro e w2 ⟨rfl,h2,x2⟩;go_wp2_with fail;go_ret;exact⟨by rw[uH E];rfl,by rw[uH E];exact uH h2,x2⟩
theorem c4e[Inhabited uN](h:SAt B w b x ar kr v4 v8 br cB cO bn pb pa pk kn hd vf F vk K role)(n8:x.cells.length<=8000)(hp:x.phase=6)(i:Nat)(hi:x.hand=(i:Int)+1)(hin:i<x.cells.length)(hk:x.cells.length<=kn)(ho:Ho F)(hl:F.length<=1000000000)(a:World)(ha:a.heap.size<=B)(hx:Ext a w):
  Calls Tryz.prog 336 #[.agg #[.pointer (some ⟨b,0,none⟩)]] w λe w'=>e=.returned (zV (dZ x).phase b)/\Hid (∃pa' pk' vf' F' role',SAt B w' b (dZ x) ar kr v4 v8 br cB cO bn pb pa' pk' kn hd vf' F' vk K role'/\Ho F'/\(((x.c i).st=2/\F'.Perm ((i:Int)::F))\/((x.c i).st≠2/\F'=F)))/\Ext a w':=by
 have EU:=uU (show dZ x=zX (eU x i) i by unfold dZ;rw[if_neg (by omega),show(x.hand-1).toNat=i by omega]);have EP:=uU (show(dZ x).phase=6 by rw[uH EU];unfold zX;split <;> (unfold eU;exact hp));have hbw:b<w.heap.size:=h.sb.nb.1;have lo:=h.sb.lo.1;have H:=uU h;have XA:=(Ext.refl w).alloc (.cells #[.pointer (some ⟨b,0,none⟩)] 238);have XA2:=uU XA;have c6:=h.sb.bx.2.2.2.2.2.2.1;rw[hi] at c6;have f6:=h.sb.nb.2 6;have hi0:((i:Int)+1 == 0)=false:=by simp;omega
 have HBC:=uU (h.rw.nc i hin);have FOW:=uU (show ∀q,vf.ownBlock=some q->q<w.heap.size from λq hq=>(h.sb.fr.own.lt q hq).2);have HO:=uU (And.intro ho hl);have nsb:¬w.heap.size=b:=by omega
 have nbs:¬b=w.heap.size:=by omega
 clear h hp hi XA ho hl;go_enter Tryz.func336,Tryz.ntmps336;go_wp2_with fail;obtain⟨W1,hW1⟩:∃W,W=(w.setCell ⟨b,6,none⟩ (iv i)).alloc (.cells #[.pointer (some ⟨b,0,none⟩)] 238):=⟨_,rfl⟩;have H1:=uU (show SAt B W1 b { x with hand:=(i:Int) } ar kr v4 v8 br cB cO bn pb pa pk kn hd vf F vk K role by rw[hW1];exact(H.hand (i:Int)).ext ((Ext.refl _).alloc _));have X1:=uU (show Ext a W1 by rw[hW1];exact(hx.setCell (p:=⟨b,6,none⟩) (show a.heap.size<=b by omega) _).alloc _)
 have r1:W1.cell? ⟨w.heap.size,0,none⟩=some (.pointer (some ⟨b,0,none⟩)):=by
  rw[hW1];have:w.heap.size=(w.setCell ⟨b,6,none⟩ (iv i)).heap.size:=by simp [World.setCell]
  rw[this];simp [go_sem]
 rw[<-hW1];clear hW1 c6 f6;refine(a1k b x.cells.length kn bn i _ H1.sb.bx.2.2.2.2.2.2.1 H1.sb.n13 hin).mono ?_;rintro e w2 ⟨rfl,x2⟩;have H2:=uU (H1.ext x2);have X2:=uU (X1.trans x2);have r2:=x2.keep r1;obtain⟨m0,m1⟩:=H2.sb.nd i hin;have p0:w2.cell? ⟨cB i,cO i,none⟩=some (iv (x.c i).st):=(H2.rw.s i hin).1;have hs2:w.heap.size<w2.heap.size:=uL r2;clear r1 x2 H1 X1;cases q2:((x.c i).st == 2)
 ·have ES:=uU (show dZ x=zX { x with hand:=(i:Int) } i by rw[uH EU];unfold eU;rw[if_neg (by simpa using q2)]);have NS:=uU (show(x.c i).st≠2 by simpa using q2);have n13:w2.cell? ⟨b,13,none⟩=some (.slice (some ⟨bn,0,none⟩) x.cells.length kn):=H2.sb.n13;go_wp2_with fail;clear q2;by_cases hlast:i+1=x.cells.length
  ·cases q0:((x.c i).st == 0)
   ·skip
    have EF:=uU (show dZ x={ x with cells:=x.cells,hand:=(i:Int) } by rw[uH ES];unfold zX;rw[if_neg (λe=>by have:=e.2;simp at q0;exact q0 this)]);have g1:((i:Int) == (x.cells.length:Int)-1)=true:=by simp;omega
    go_quiet (fail);go_wp2_with fail;go_ret;exact⟨by rw[uH EP];rfl,by rw[uH EF];exact⟨_,_,_,_,_,H2.ext ((Ext.refl _).drewN _),HO.1,Or.inr ⟨NS,rfl⟩⟩,X2.drewN _⟩
   ·skip
    have EF:=uU (show dZ x={ x with cells:=(x.cells).take i,hand:=(i:Int) } by rw[uH ES];unfold zX;rw[if_pos ⟨by simpa using hlast,(show(x.c i).st=0 by simpa using q0)⟩]);have g1:((i:Int) == (x.cells.length:Int)-1)=true:=by simp;omega
    have k1:(i:Int)<=(kn:Int):=by omega
    have k0:(0:Int)<=(i:Int):=by omega
    have f13:=H2.sb.nb.2 13;have hbW:b<w2.heap.size:=H2.sb.nb.1;have FN:=uU (show ∀W',Ext w2 W'->SAt B (W'.setCell ⟨b,13,none⟩ (.slice (some ⟨bn,0,none⟩) i kn)) b { x with cells:=(x.cells).take i,hand:=(i:Int) } ar kr v4 v8 br cB cO bn pb pa pk kn hd vf F vk K role/\Ext a (W'.setCell ⟨b,13,none⟩ (.slice (some ⟨bn,0,none⟩) i kn)) from λW' xw=>⟨(H2.ext xw).drop i (by simpa using hlast),(X2.trans xw).setCell (p:=⟨b,13,none⟩) (show a.heap.size<=b by omega) _⟩);clear hlast;go_quiet (fail);obtain⟨d1,hd1⟩:∃m,m=nq:=⟨_,rfl⟩;go_wp2_with fail
    go_region
    all_goals
     go_wp2_with fail;go_ret
     first | exact⟨by rw[uH EP];rfl,by rw[uH EF];exact⟨_,_,_,_,_,((FN _ ((Ext.refl _).drewN _)).1).ext (Ext.refl _).drew,HO.1,Or.inr ⟨NS,rfl⟩⟩,((FN _ ((Ext.refl _).drewN _)).2).drew⟩ | exact⟨by rw[uH EP];rfl,by rw[uH EF];exact⟨_,_,_,_,_,(FN _ ((Ext.refl _).drewN _)).1,HO.1,Or.inr ⟨NS,rfl⟩⟩,(FN _ ((Ext.refl _).drewN _)).2⟩
  ·skip
   have EF:=uU (show dZ x={ x with cells:=x.cells,hand:=(i:Int) } by rw[uH ES];unfold zX;rw[if_neg (λe=>hlast (by simpa using e.1))]);have g1:((i:Int) == (x.cells.length:Int)-1)=false:=by simp;omega
   go_quiet (fail);go_wp2_with fail;go_ret;exact⟨by rw[uH EP];rfl,by rw[uH EF];exact⟨_,_,_,_,_,H2.ext ((Ext.refl _).drewN _),HO.1,Or.inr ⟨NS,rfl⟩⟩,X2.drewN _⟩
 ·have ES:=uU (show dZ x=zX { x with cells:=x.cells.set i Cl0,hand:=(i:Int) } i by rw[uH EU];unfold eU;rw[if_pos (by simpa using q2)]);have NS:=uU (show(x.c i).st=2 by simpa using q2);go_wp2_with fail;refine(a9h H2 i hin HO.1 HO.2 a ha X2).mono ?_;rintro e w3 ⟨rfl,g3,x3⟩;obtain⟨pa',pk',vf',F',role',h3,ho3,pm3⟩:=g3.1;have r3:w3.cell? ⟨w.heap.size,0,none⟩=some (.pointer (some ⟨b,0,none⟩)):=(World.cell?_of_block (a:=⟨w.heap.size,0,none⟩) (g3.2 w.heap.size hs2 nsb (by have:=HBC.1.1;omega) (λe=>Nat.lt_irrefl _ (FOW _ e)))).trans r2;have H3:=uU (show SAt B w3 b { x with cells:=x.cells.set i Cl0,hand:=(i:Int) } ar kr v4 v8 br cB cO bn pb pa' pk' kn hd vf' F' vk K role' from h3);have X3:=uU x3;have HP3:=uU (And.intro ho3 pm3);clear g3 x3 h3 ho3 pm3 m0 m1 p0 r2 hs2 H2 X2 q2;have hl3:(x.cells.set i Cl0).length=x.cells.length:=by simp
  obtain⟨m0,m1⟩:=H3.sb.nd i (by rw[hl3];exact hin)
  have p0:w3.cell? ⟨cB i,cO i,none⟩=some (iv 0):=by
   have:=(H3.rw.s i (by rw[hl3];exact hin)).1;exact this.trans (by simp [Hp.c,hin];rfl)
  have n13:w3.cell? ⟨b,13,none⟩=some (.slice (some ⟨bn,0,none⟩) x.cells.length kn):=by have:=H3.sb.n13;rw[hl3] at this;exact this
  have hs3:w.heap.size<w3.heap.size:=uL r3;clear hl3;go_wp2_with fail;by_cases hlast:i+1=x.cells.length
  ·skip
   have EF:=uU (show dZ x={ x with cells:=(x.cells.set i Cl0).take i,hand:=(i:Int) } by rw[uH ES];unfold zX;rw[if_pos ⟨by simpa using hlast,by simp [Hp.c,hin];rfl⟩]);have g1:((i:Int) == (x.cells.length:Int)-1)=true:=by simp;omega
   have k1:(i:Int)<=(kn:Int):=by omega
   have k0:(0:Int)<=(i:Int):=by omega
   have f13:=H3.sb.nb.2 13;have hbW:b<w3.heap.size:=H3.sb.nb.1;have FN:=uU (show ∀W',Ext w3 W'->SAt B (W'.setCell ⟨b,13,none⟩ (.slice (some ⟨bn,0,none⟩) i kn)) b { x with cells:=(x.cells.set i Cl0).take i,hand:=(i:Int) } ar kr v4 v8 br cB cO bn pb pa' pk' kn hd vf' F' vk K role'/\Ext a (W'.setCell ⟨b,13,none⟩ (.slice (some ⟨bn,0,none⟩) i kn)) from λW' xw=>⟨(H3.ext xw).drop i (by simpa using hlast),(X3.trans xw).setCell (p:=⟨b,13,none⟩) (show a.heap.size<=b by omega) _⟩);clear hlast;go_quiet (fail);obtain⟨d1,hd1⟩:∃m,m=nq:=⟨_,rfl⟩;go_wp2_with fail
   go_region
   all_goals
    go_wp2_with fail;go_ret
    first | exact⟨by rw[uH EP];rfl,by rw[uH EF];exact⟨_,_,_,_,_,((FN _ ((Ext.refl _).drewN _)).1).ext (Ext.refl _).drew,HP3.1,Or.inl ⟨NS,HP3.2⟩⟩,((FN _ ((Ext.refl _).drewN _)).2).drew⟩ | exact⟨by rw[uH EP];rfl,by rw[uH EF];exact⟨_,_,_,_,_,(FN _ ((Ext.refl _).drewN _)).1,HP3.1,Or.inl ⟨NS,HP3.2⟩⟩,(FN _ ((Ext.refl _).drewN _)).2⟩
  ·skip
   have EF:=uU (show dZ x={ x with cells:=x.cells.set i Cl0,hand:=(i:Int) } by rw[uH ES];unfold zX;rw[if_neg (λe=>hlast (by simpa using e.1))]);have g1:((i:Int) == (x.cells.length:Int)-1)=false:=by simp;omega
   go_quiet (fail);go_wp2_with fail;go_ret;exact⟨by rw[uH EP];rfl,by rw[uH EF];exact⟨_,_,_,_,_,H3.ext ((Ext.refl _).drewN _),HP3.1,Or.inl ⟨NS,HP3.2⟩⟩,X3.drewN _⟩
def SOq[Inhabited uN](C B:Nat)(w:World)(b:Nat)(x:Hp):Prop:=∃ar kr a4 n4 k4 a8 m8 k8 br cB cO bn pb pa pk kn hd vf F vk K role,SAt B w b x ar kr (.slice a4 n4 k4) (.slice a8 m8 k8) br cB cO bn pb pa pk kn hd vf F vk K role/\zJ C x F K/\2*x.room<=(kn:Int)/\(default:uN).z bn=none
theorem a6r(x:Hp)(y:Wd):(uY x y).room=x.room:=by
 unfold uY
 split
 ·exact(dH x _).1
 ·rfl
theorem b0g:∀(ys:List Wd) (z:Hp),(ys.foldl uY z).room=z.room
 | [],_=>rfl
 | y::ys,z=>(b0g ys (uY z y)).trans (a6r z y)
theorem uroom1(x:Hp):(qC x).room=x.room:=by
 unfold qC
 split
 ·rfl
 ·by_cases e:tJ (x.c x.hand.toNat)=true
  ·simp only [if_pos e];exact(dH x _).1
  ·simp only [if_neg e]
theorem uroom2(x:Hp):(eC x).room=x.room:=by
 unfold eC
 split
 ·split
  ·exact(a6r _ _).trans (a6r _ _)
  ·rfl
 ·split
  ·exact b0g x.regs x
  ·exact b0g x.regs x
theorem b5v(x:Hp):(dE x).room=x.room:=by
 unfold dE
 split
 ·rfl
 ·split <;> rfl
theorem uroom4(x:Hp):(unit4 x).room=x.room:=by
 unfold unit4
 split <;> rfl
theorem uroom5(x:Hp):(eK x).room=x.room:=by
 unfold eK
 split
 ·rfl
 ·split <;> rfl
theorem c7v(x:Hp):(dZ x).room=x.room:=by
 unfold dZ zX
 split
 ·rfl
 ·split <;> rfl
theorem c4f[Inhabited uN](h:SOq C B w b x)(s:Snd x)(hp:x.phase=1)(a:World)(ha:a.heap.size<=B)(hx:Ext a w):
  Calls Tryz.prog 328 #[.agg #[.pointer (some ⟨b,0,none⟩)]] w λe w'=>e=.returned (zV (qC x).phase b)/\Hid (SOq C B w' b (qC x))/\Ext a w':=by
 obtain⟨ar,kr,a4,n4,k4,a8,m8,k8,br,cB,cO,bn,pb,pa,pk,kn,hd,vf,F,vk,K,role,h,i,hk⟩:=h;have hh:=s.r1.hand;have lk:2*(qC x).room<=(kn:Int)/\(default:uN).z bn=none:=by rw[uroom1];exact hk
 by_cases he:x.hand=x.cells.length
 ·refine(c3q h hp he a ha hx).mono ?_;rintro e w' ⟨rfl,h2,x2⟩;exact⟨rfl,⟨_,_,_,_,_,_,_,_,_,_,_,_,_,_,_,_,_,_,_,_,_,_,h2,inv1 i hp,lk⟩,x2⟩
 ·refine(c0c h s hp x.hand.toNat (by omega) (by omega) a ha hx).mono ?_;rintro e w' ⟨rfl,h2,x2⟩;exact⟨rfl,⟨_,_,_,_,_,_,_,_,_,_,_,_,_,_,_,_,_,_,_,_,_,_,h2,inv1 i hp,lk⟩,x2⟩
theorem c4g[Inhabited uN]{C B:Nat}{w:World}{b:Nat}{x:Hp}(h:SOq C B w b x)(s:Snd x)(hp:x.phase=2)(a:World)(ha:a.heap.size<=B)(hx:Ext a w):
  Calls Tryz.prog 329 #[.agg #[.pointer (some ⟨b,0,none⟩)]] w λe w'=>e=.returned (zV (eC x).phase b)/\Hid (SOq C B w' b (eC x))/\Ext a w':=by
 obtain⟨ar,kr,a4,n4,k4,a8,m8,k8,br,cB,cO,bn,pb,pa,pk,kn,hd,vf,F,vk,K,role,h,i,hk⟩:=h;have hh:=s.r1.sub;have n8:=s.ok.n8;have lk:2*(eC x).room<=(kn:Int)/\(default:uN).z bn=none:=by rw[uroom2];exact hk
 cases hg:x.gray with
 | nil=>
  refine(c4b h s hp hg a ha hx).mono ?_;rintro e w' ⟨rfl,h2,x2⟩;exact⟨rfl,⟨_,_,_,_,_,_,_,_,_,_,_,_,_,_,_,_,_,_,_,_,_,_,h2,inv2 i hp n8,lk⟩,x2⟩
 | cons g G=>
  obtain⟨g0,g1⟩:=s.r5.2.2 g (by rw[hg];simp);obtain⟨j,rfl⟩:∃j:Nat,g=(j:Int):=⟨g.toNat,by omega⟩;by_cases hs:x.sub<((x.c j).prs.length:Int)
  ·refine(c4a h s hp j G hg (by omega) x.sub.toNat (by omega) (by omega) a ha hx).mono ?_;rintro e w' ⟨rfl,h2,x2⟩;exact⟨rfl,⟨_,_,_,_,_,_,_,_,_,_,_,_,_,_,_,_,_,_,_,_,_,_,h2,inv2 i hp n8,lk⟩,x2⟩
  ·refine(c0f h n8 hp j G hg (by omega) hs a ha hx).mono ?_;rintro e w' ⟨rfl,h2,x2⟩;exact⟨rfl,⟨_,_,_,_,_,_,_,_,_,_,_,_,_,_,_,_,_,_,_,_,_,_,h2,inv2 i hp n8,lk⟩,x2⟩
theorem c4h[Inhabited uN](h:SOq C B w b x)(hC:C<=1000000000)(s:Snd x)(hp:x.phase=3)(a:World)(ha:a.heap.size<=B)(hx:Ext a w):
  Calls Tryz.prog 331 #[.agg #[.pointer (some ⟨b,0,none⟩)]] w λe w'=>e=.returned (zV (dE x).phase b)/\Hid (SOq C B w' b (dE x))/\Ext a w':=by
 obtain⟨ar,kr,a4,n4,k4,a8,m8,k8,br,cB,cO,bn,pb,pa,pk,kn,hd,vf,F,vk,K,role,h,iv,hk⟩:=h;have hh:=s.r1.hand;have n8:=s.ok.n8;by_cases he:x.hand=x.cells.length
 ·have e3:dE x=dD x 4 0:=by unfold dE;rw[if_pos he]
  refine(c4c h hp he a ha hx).mono ?_;rintro e w' ⟨rfl,h2,x2⟩;exact⟨rfl,⟨_,_,_,_,_,_,_,_,_,_,_,_,_,_,_,_,_,_,_,_,_,_,h2,by rw[e3];exact c7c iv hp he,by rw[b5v];exact hk⟩,x2⟩
 ·obtain⟨i,hi⟩:∃i:Nat,x.hand=(i:Int):=⟨x.hand.toNat,by omega⟩;have hin:i<x.cells.length:=by omega
  have ei:x.hand.toNat=i:=by omega
  cases q1:((x.c i).st == 1)
  ·have qn:(x.c i).st≠1:=by simpa using q1
   have e3:=b3a s i hi hin qn;have hv:=b0f (z:=dE x) iv hp (by rw[e3];exact hp) i hi hin (by rw[e3]) (by rw[e3]) (λq _=>by rw[e3];rfl) iv.ho (.inl ⟨rfl,by rw[e3];exact id⟩);rw[if_neg (by rw[e3];exact qn),List.append_nil] at hv;refine(c0h h s hp i hi hin q1 a ha hx).mono ?_;rintro e w' ⟨rfl,h2,x2⟩;exact⟨rfl,⟨_,_,_,_,_,_,_,_,_,_,_,_,_,_,_,_,_,_,_,_,_,_,h2,hv,by rw[b5v];exact hk⟩,x2⟩
  ·have q1':(x.c i).st=1:=by simpa using q1
   cases q0:((x.c i).color == 0)
   ·have e3:dE x={ x with cells:=x.cells.set i (a1u (x.c i)),hand:=(i:Int)+1 }:=by
     unfold dE;rw[if_neg he,ei,if_neg (by simp [whB,q0]),hi]
    have cs:∀q,(dE x).c q=if q=i then a1u (x.c i) else x.c q:=λq=>by
     rw[e3];exact Hp.c_set x i (a1u (x.c i)) hin q
    have hv:=b0f (z:=dE x) iv hp (by rw[e3];exact hp) i hi hin (by rw[e3]) (by rw[e3];simp) (λq hq=>by rw[cs,if_neg hq]) iv.ho (.inl ⟨rfl,by rw[cs,if_pos rfl];exact id⟩);rw[if_pos (by rw[cs,if_pos rfl];exact q1')] at hv
    have hK:K.length<=8000:=by
     have k3:=iv.k3 hp;have:=b1o x.cells.length K (k3.1.imp (λh=>Nat.ne_of_lt h)) (λq hq=>by have:=(k3.2.1 q hq).1;omega);omega
    refine(c0i h n8 hp i hi hin q1 q0 hK a ha hx).mono ?_;rintro e w' ⟨rfl,h2,x2⟩;obtain⟨vk',role',h2⟩:=uH h2;exact⟨rfl,⟨_,_,_,_,_,_,_,_,_,_,_,_,_,_,_,_,_,_,_,_,_,_,h2,hv,by rw[b5v];exact hk⟩,x2⟩
   ·have wh:whB (x.c i)=true:=by simp [whB,q1,q0]
    have e3:dE x={ x with used:=x.used-(1+(x.c i).prs.length),cells:=x.cells.set i Cl0,hand:=(i:Int)+1 }:=by
     unfold dE;rw[if_neg he,ei,if_pos wh,hi]
    have cs:∀q,(dE x).c q=if q=i then Cl0 else x.c q:=λq=>by
     rw[e3];exact Hp.c_set x i Cl0 hin q
    refine(b8a h s hp i hi hin wh iv.ho (by have:=iv.le;omega) a ha hx).mono ?_;rintro e w' ⟨rfl,h2,x2⟩;obtain⟨pa',pk',vf',F',role',h2,ho2,pm⟩:=uH h2;have hv:=b0f (z:=dE x) iv hp (by rw[e3];exact hp) i hi hin (by rw[e3]) (by rw[e3];simp) (λq hq=>by rw[cs,if_neg hq]) ho2 (.inr pm);rw[if_neg (by rw[cs,if_pos rfl];simp [Cl0]),List.append_nil] at hv;exact⟨rfl,⟨_,_,_,_,_,_,_,_,_,_,_,_,_,_,_,_,_,_,_,_,_,_,h2,hv,by rw[b5v];exact hk⟩,x2⟩
theorem c4i[Inhabited uN](h:SOq C B w b x)(hC:C<=1000000000)(s:Snd x)(hp:x.phase=4)(a:World)(ha:a.heap.size<=B)(hx:Ext a w):
  Calls Tryz.prog 333 #[.agg #[.pointer (some ⟨b,0,none⟩)]] w λe w'=>e=.returned (zV (unit4 x).phase b)/\Hid (SOq C B w' b (unit4 x))/\Ext a w':=by
 obtain⟨ar,kr,a4,n4,k4,a8,m8,k8,br,cB,cO,bn,pb,pa,pk,kn,hd,vf,F,vk,K,role,h,iv,hk⟩:=h;have lk:2*(unit4 x).room<=(kn:Int)/\(default:uN).z bn=none:=by rw[uroom4];exact hk
 refine(c7r h iv hC s hp a ha hx).mono ?_;rintro e w' ⟨rfl,h2,x2⟩;obtain⟨pb',pa',pk',vf',F',vk',K',role',h2,i2⟩:=uH h2;exact⟨rfl,⟨_,_,_,_,_,_,_,_,_,_,_,_,_,_,_,_,_,_,_,_,_,_,h2,i2,lk⟩,x2⟩
theorem c4j[Inhabited uN](h:SOq C B w b x)(s:Snd x)(hp:x.phase=5)(a:World)(ha:a.heap.size<=B)(hx:Ext a w):
  Calls Tryz.prog 335 #[.agg #[.pointer (some ⟨b,0,none⟩)]] w λe w'=>e=.returned (zV (eK x).phase b)/\Hid (SOq C B w' b (eK x))/\Ext a w':=by
 obtain⟨ar,kr,a4,n4,k4,a8,m8,k8,br,cB,cO,bn,pb,pa,pk,kn,hd,vf,F,vk,K,role,h,i,hk⟩:=h;have hh:=s.r1.hand;have hs:=s.r1.sub;have n8:=s.ok.n8;have lk:2*(eK x).room<=(kn:Int)/\(default:uN).z bn=none:=by rw[uroom5];exact hk
 by_cases he:x.hand=x.cells.length
 ·refine(c7s h hp he a ha hx).mono ?_;rintro e w' ⟨rfl,h2,x2⟩;exact⟨rfl,⟨_,_,_,_,_,_,_,_,_,_,_,_,_,_,_,_,_,_,_,_,_,_,h2,inv5 i hp n8,lk⟩,x2⟩
 ·have hin:x.hand.toNat<x.cells.length:=by omega
  by_cases hkl:x.sub.toNat<(x.c x.hand.toNat).prs.length
  ·have pf:=((s.r4.2 x.hand.toNat hin).2 x.sub.toNat hkl).2 (λd=>by have:=d.1;omega);refine(c3y h hp x.hand.toNat (by omega) hin x.sub.toNat (by omega) hkl s.r2 pf.1.1 pf.2.1 a ha hx).mono ?_;rintro e w' ⟨rfl,h2,x2⟩;exact⟨rfl,⟨_,_,_,_,_,_,_,_,_,_,_,_,_,_,_,_,_,_,_,_,_,_,h2,inv5 i hp n8,lk⟩,x2⟩
  ·refine(c3x h n8 hp x.hand.toNat (by omega) hin x.sub.toNat (by omega) hkl a ha hx).mono ?_;rintro e w' ⟨rfl,h2,x2⟩;exact⟨rfl,⟨_,_,_,_,_,_,_,_,_,_,_,_,_,_,_,_,_,_,_,_,_,_,h2,inv5 i hp n8,lk⟩,x2⟩
theorem c4k[Inhabited uN](h:SOq C B w b x)(hC:C<=1000000000)(s:Snd x)(hp:x.phase=6)(a:World)(ha:a.heap.size<=B)(hx:Ext a w):
  Calls Tryz.prog 336 #[.agg #[.pointer (some ⟨b,0,none⟩)]] w λe w'=>e=.returned (zV (dZ x).phase b)/\Hid (SOq C B w' b (dZ x))/\Ext a w':=by
 obtain⟨ar,kr,a4,n4,k4,a8,m8,k8,br,cB,cO,bn,pb,pa,pk,kn,hd,vf,F,vk,K,role,h,iv,hk⟩:=h;have hh:=s.r1.hand;have n8:=s.ok.n8;by_cases he:x.hand=0
 ·refine(c7u h hp he s.r1.rounds a ha hx).mono ?_;rintro e w' ⟨rfl,h2,x2⟩;have e6:(dZ x).phase=0/\(dZ x).cells=x.cells:=by unfold dZ;rw[if_pos he];exact⟨rfl,rfl⟩
  exact⟨rfl,⟨_,_,_,_,_,_,_,_,_,_,_,_,_,_,_,_,_,_,_,_,_,_,h2,c7d iv hp e6.1 e6.2,by rw[c7v];exact hk⟩,x2⟩
 ·obtain⟨i,hi⟩:∃i:Nat,x.hand=(i:Int)+1:=⟨(x.hand-1).toNat,by omega⟩;have hin:i<x.cells.length:=by omega
  have e6:dZ x=zX (eU x i) i:=by unfold dZ;rw[if_neg (by omega),show(x.hand-1).toNat=i by omega]
  have shl:(eU x i).cells.length=x.cells.length:=by unfold eU;split <;> simp
  have shc:∀q,(eU x i).c q=if q=i/\(x.c i).st=2 then Cl0 else x.c q:=λq=>by
   by_cases e2:(x.c i).st=2
   ·have:(eU x i).c q=({ x with cells:=x.cells.set i Cl0 }:Hp).c q:=by unfold eU;rw[if_pos e2];rfl
    rw[this,Hp.c_set x i Cl0 hin q];by_cases e:q=i
    ·rw[if_pos e,if_pos ⟨e,e2⟩]
    ·rw[if_neg e,if_neg (λh=>e h.1)]
   ·have:(eU x i).c q=x.c q:=by unfold eU;rw[if_neg e2];rfl
    rw[this,if_neg (λh=>e2 h.2)]
  have d1:(dZ x).phase=6/\(dZ x).hand=(i:Int)/\(dZ x).cells.length<=x.cells.length/\∀q,q<(dZ x).cells.length->(dZ x).c q=(eU x i).c q:=by
   rw[e6];unfold zX
   split
   ·refine⟨hp,rfl,by simp [shl];omega,λq hq=>?_⟩;simp at hq;simp only [Hp.c,List.getD_eq_getElem?_getD,List.getElem?_take];rw[if_pos (by omega)]
   ·exact⟨hp,rfl,by rw[shl];omega,λq _=>rfl⟩
  refine(c4e h n8 hp i hi hin (by have:=s.r1.cells;omega) iv.ho (by have:=iv.le;omega) a ha hx).mono ?_;rintro e w' ⟨rfl,h2,x2⟩;obtain⟨pa',pk',vf',F',role',h2,ho2,pm⟩:=uH h2
  have hv:=c3o (z:=dZ x) iv hp d1.1 i hi d1.2.1 d1.2.2.1 (λq hq hne=>by rw[d1.2.2.2 q hq,shc,if_neg (λh=>hne h.1)]) ho2 (by
   rcases pm with⟨_,p⟩ | ⟨n2,p⟩
   ·exact .inr p
   ·exact .inl ⟨p,λhq=>by rw[d1.2.2.2 i hq,shc,if_neg (λh=>n2 h.2)];exact id⟩)
  exact⟨rfl,⟨_,_,_,_,_,_,_,_,_,_,_,_,_,_,_,_,_,_,_,_,_,_,h2,hv,by rw[c7v];exact hk⟩,x2⟩
theorem SOq.box[Inhabited uN](h:SOq C B w b x):w.cell? ⟨b,5,none⟩=some (iv x.phase)/\w.frozen? ⟨b,5,none⟩=false/\B<=b/\b<w.heap.size:=by
 obtain⟨ar,kr,a4,n4,k4,a8,m8,k8,br,cB,cO,bn,pb,pa,pk,kn,hd,vf,F,vk,K,role,h,i⟩:=h;exact⟨h.sb.bx.2.2.2.2.2.1,h.sb.nb.2 5,h.sb.lo.1,h.sb.nb.1⟩
def a5o : String := "loop.example/spool/impl.unit"
theorem c4r(b:Nat)(W:World){s:String}(hs:s=a5o):(method 443 233 (.agg #[.pointer (some ⟨b,0,none⟩)]) s).run Tryz.prog W=.ok (328,.agg #[.pointer (some ⟨b,0,none⟩)]) W:=by subst hs;kernel_rfl
theorem b4o(b:Nat)(W:World):(binOp .neq 182 (.iface 233 (.agg #[.pointer (some ⟨b,0,none⟩)])) .nilIface).run Tryz.prog W=.ok (.bool true) W:=by kernel_rfl
theorem c8c(b:Nat)(W:World){s:String}(hs:s=a5o):(method 443 234 (.agg #[.pointer (some ⟨b,0,none⟩)]) s).run Tryz.prog W=.ok (329,.agg #[.pointer (some ⟨b,0,none⟩)]) W:=by subst hs;kernel_rfl
theorem b8h(b:Nat)(W:World):(binOp .neq 182 (.iface 234 (.agg #[.pointer (some ⟨b,0,none⟩)])) .nilIface).run Tryz.prog W=.ok (.bool true) W:=by kernel_rfl
theorem c4s(b:Nat)(W:World){s:String}(hs:s=a5o):(method 443 235 (.agg #[.pointer (some ⟨b,0,none⟩)]) s).run Tryz.prog W=.ok (331,.agg #[.pointer (some ⟨b,0,none⟩)]) W:=by subst hs;kernel_rfl
theorem b4p(b:Nat)(W:World):(binOp .neq 182 (.iface 235 (.agg #[.pointer (some ⟨b,0,none⟩)])) .nilIface).run Tryz.prog W=.ok (.bool true) W:=by kernel_rfl
theorem c8d(b:Nat)(W:World){s:String}(hs:s=a5o):(method 443 236 (.agg #[.pointer (some ⟨b,0,none⟩)]) s).run Tryz.prog W=.ok (333,.agg #[.pointer (some ⟨b,0,none⟩)]) W:=by subst hs;kernel_rfl
theorem b8i(b:Nat)(W:World):(binOp .neq 182 (.iface 236 (.agg #[.pointer (some ⟨b,0,none⟩)])) .nilIface).run Tryz.prog W=.ok (.bool true) W:=by kernel_rfl
theorem c8e(b:Nat)(W:World){s:String}(hs:s=a5o):(method 443 237 (.agg #[.pointer (some ⟨b,0,none⟩)]) s).run Tryz.prog W=.ok (335,.agg #[.pointer (some ⟨b,0,none⟩)]) W:=by subst hs;kernel_rfl
theorem b8j(b:Nat)(W:World):(binOp .neq 182 (.iface 237 (.agg #[.pointer (some ⟨b,0,none⟩)])) .nilIface).run Tryz.prog W=.ok (.bool true) W:=by kernel_rfl
theorem c8f(b:Nat)(W:World){s:String}(hs:s=a5o):(method 443 238 (.agg #[.pointer (some ⟨b,0,none⟩)]) s).run Tryz.prog W=.ok (336,.agg #[.pointer (some ⟨b,0,none⟩)]) W:=by subst hs;kernel_rfl
theorem b8k(b:Nat)(W:World):(binOp .neq 182 (.iface 238 (.agg #[.pointer (some ⟨b,0,none⟩)])) .nilIface).run Tryz.prog W=.ok (.bool true) W:=by kernel_rfl
theorem a9i[Inhabited uN](n:Nat)(h:SOq C B w b x)(hC:C<=1000000000)(s:Snd x)(a:World)(ha:a.heap.size<=B)(hx:Ext a w):
  Calls Tryz.prog 144 #[.pointer (some ⟨b,0,none⟩),.int .i64 n] w λe w'=>∃k:Nat,e=.returned (.int .i64 k)/\Hid (a2n x n k)/\Hid (SOq C B w' b (itU k x))/\Ext a w':=by
 have HS:=uU h;have S:=uU s;have NW:=uU (b1b x.phase b w h.box.1 s.r1.phase);have XS:=uU hx;clear h s;go_enter Tryz.func144,Tryz.ntmps144;go_wp2_with fail;refine NW.mono ?_;rintro e w1 ⟨rfl,hw1⟩;subst hw1;go_wp2_with fail
 go_loopg [5,6] (14000000) (λgk u now wr=>∃k:Nat,u=.int .i64 k/\now=zV (itU k x).phase b/\Hid (k<=n)/\Hid (yL x k)/\Hid (mu (itU k x)<=gk)/\Hid (SOq C B wr b (itU k x))/\Hid (Ext a wr))
 case atStart=>exact⟨0,rfl,rfl,Nat.zero_le _,yL.zero _,S.mu_le,HS,XS⟩
 case round=>
  clear HS XS NW;obtain⟨k,rfl,rfl,hkn,hr,hm,hG,hxr⟩:=hrel;have kl:=hr.le S;have SK:=uU (S.itU k);by_cases p0:(itU k x).phase=0
  ·have EP:=uU p0;have e0:zV (itU k x).phase b=.nilIface:=by rw[p0];rfl
   have q0:∀W,(binOp .neq 182 .nilIface .nilIface).run Tryz.prog W=.ok (.bool false) W:=λ_=>by kernel_rfl
   rw[e0];clear p0 e0;go_wp2_with fail;go_ret;exact⟨k,rfl,⟨hr,hkn,.inr EP⟩,hG,hxr⟩
  ·by_cases hlt:k<n
   ·have h1:(k:Int)<(n:Int):=by omega
    have R3:=uU (hr.succ p0);have M3:=uU (show mu (itU (k+1) x)<mu (itU k x) from SK.less p0);have wk:wrap64 ((k:Int)+1)=(k:Int)+1:=by unfold wrap64;omega
    have HP:=uU SK.r1.phase;have P0:=uU p0;have HK:=uU (show k+1<=n by omega);clear p0;by_cases p1:(itU k x).phase=1
    ·have e1:zV (itU k x).phase b=.iface 233 (.agg #[.pointer (some ⟨b,0,none⟩)]):=by rw[p1];rfl
     have q1:∀W,(binOp .neq 182 (.iface 233 (.agg #[.pointer (some ⟨b,0,none⟩)])) .nilIface).run Tryz.prog W=.ok (.bool true) W:=b4o b;have EU:=uU (show qC (itU k x)=itU (k+1) x by show qC (itU k x)=dK (itU k x);unfold dK;simp [p1]);have P1:=uU p1;rw[e1];clear p1 e1;go_wp2_with fail;rw[c4r b _ (show _=a5o by kernel_rfl)];go_wp2_with fail;refine(c4f hG SK P1 a ha hxr).mono ?_;rintro e w3 ⟨rfl,h3,x3⟩;rw[uH EU] at h3 ⊢;have X3:=uU x3;clear x3;go_wp2_with fail
     go_roundg (mu (itU (k+1) x))
     case measure=>have:=uH M3;have:=uH hm;omega
     case rel=>exact⟨k+1,by go_num,rfl,HK,R3,Nat.le_refl _,h3,X3⟩
    ·skip
     by_cases p2:(itU k x).phase=2
     ·have e1:zV (itU k x).phase b=.iface 234 (.agg #[.pointer (some ⟨b,0,none⟩)]):=by rw[p2];rfl
      have q1:∀W,(binOp .neq 182 (.iface 234 (.agg #[.pointer (some ⟨b,0,none⟩)])) .nilIface).run Tryz.prog W=.ok (.bool true) W:=b8h b;have EU:=uU (show eC (itU k x)=itU (k+1) x by show eC (itU k x)=dK (itU k x);unfold dK;simp [p2]);have P1:=uU p2;rw[e1];clear p2 e1;go_wp2_with fail;rw[c8c b _ (show _=a5o by kernel_rfl)];go_wp2_with fail;refine(c4g hG SK P1 a ha hxr).mono ?_;rintro e w3 ⟨rfl,h3,x3⟩;rw[uH EU] at h3 ⊢;have X3:=uU x3;clear x3;go_wp2_with fail
      go_roundg (mu (itU (k+1) x))
      case measure=>have:=uH M3;have:=uH hm;omega
      case rel=>exact⟨k+1,by go_num,rfl,HK,R3,Nat.le_refl _,h3,X3⟩
     ·skip
      by_cases p3:(itU k x).phase=3
      ·have e1:zV (itU k x).phase b=.iface 235 (.agg #[.pointer (some ⟨b,0,none⟩)]):=by rw[p3];rfl
       have q1:∀W,(binOp .neq 182 (.iface 235 (.agg #[.pointer (some ⟨b,0,none⟩)])) .nilIface).run Tryz.prog W=.ok (.bool true) W:=b4p b;have EU:=uU (show dE (itU k x)=itU (k+1) x by show dE (itU k x)=dK (itU k x);unfold dK;simp [p3]);have P1:=uU p3;rw[e1];clear p3 e1;go_wp2_with fail;rw[c4s b _ (show _=a5o by kernel_rfl)];go_wp2_with fail;refine(c4h hG hC SK P1 a ha hxr).mono ?_;rintro e w3 ⟨rfl,h3,x3⟩;rw[uH EU] at h3 ⊢;have X3:=uU x3;clear x3;go_wp2_with fail
       go_roundg (mu (itU (k+1) x))
       case measure=>have:=uH M3;have:=uH hm;omega
       case rel=>exact⟨k+1,by go_num,rfl,HK,R3,Nat.le_refl _,h3,X3⟩
      ·skip
       by_cases p4:(itU k x).phase=4
       ·have e1:zV (itU k x).phase b=.iface 236 (.agg #[.pointer (some ⟨b,0,none⟩)]):=by rw[p4];rfl
        have q1:∀W,(binOp .neq 182 (.iface 236 (.agg #[.pointer (some ⟨b,0,none⟩)])) .nilIface).run Tryz.prog W=.ok (.bool true) W:=b8i b;have EU:=uU (show unit4 (itU k x)=itU (k+1) x by show unit4 (itU k x)=dK (itU k x);unfold dK;simp [p4]);have P1:=uU p4;rw[e1];clear p4 e1;go_wp2_with fail;rw[c8d b _ (show _=a5o by kernel_rfl)];go_wp2_with fail;refine(c4i hG hC SK P1 a ha hxr).mono ?_;rintro e w3 ⟨rfl,h3,x3⟩;rw[uH EU] at h3 ⊢;have X3:=uU x3;clear x3;go_wp2_with fail
        go_roundg (mu (itU (k+1) x))
        case measure=>have:=uH M3;have:=uH hm;omega
        case rel=>exact⟨k+1,by go_num,rfl,HK,R3,Nat.le_refl _,h3,X3⟩
       ·skip
        by_cases p5:(itU k x).phase=5
        ·have e1:zV (itU k x).phase b=.iface 237 (.agg #[.pointer (some ⟨b,0,none⟩)]):=by rw[p5];rfl
         have q1:∀W,(binOp .neq 182 (.iface 237 (.agg #[.pointer (some ⟨b,0,none⟩)])) .nilIface).run Tryz.prog W=.ok (.bool true) W:=b8j b;have EU:=uU (show eK (itU k x)=itU (k+1) x by show eK (itU k x)=dK (itU k x);unfold dK;simp [p5]);have P1:=uU p5;rw[e1];clear p5 e1;go_wp2_with fail;rw[c8e b _ (show _=a5o by kernel_rfl)];go_wp2_with fail;refine(c4j hG SK P1 a ha hxr).mono ?_;rintro e w3 ⟨rfl,h3,x3⟩;rw[uH EU] at h3 ⊢;have X3:=uU x3;clear x3;go_wp2_with fail
         go_roundg (mu (itU (k+1) x))
         case measure=>have:=uH M3;have:=uH hm;omega
         case rel=>exact⟨k+1,by go_num,rfl,HK,R3,Nat.le_refl _,h3,X3⟩
        ·skip
         have p6:(itU k x).phase=6:=by have:=uH HP;have:=uH P0;omega
         have e1:zV (itU k x).phase b=.iface 238 (.agg #[.pointer (some ⟨b,0,none⟩)]):=by rw[p6];rfl
         have q1:∀W,(binOp .neq 182 (.iface 238 (.agg #[.pointer (some ⟨b,0,none⟩)])) .nilIface).run Tryz.prog W=.ok (.bool true) W:=b8k b;have EU:=uU (show dZ (itU k x)=itU (k+1) x by show dZ (itU k x)=dK (itU k x);unfold dK;simp [p6]);have P1:=uU p6;rw[e1];clear p6 e1;go_wp2_with fail;rw[c8f b _ (show _=a5o by kernel_rfl)];go_wp2_with fail;refine(c4k hG hC SK P1 a ha hxr).mono ?_;rintro e w3 ⟨rfl,h3,x3⟩;rw[uH EU] at h3 ⊢;have X3:=uU x3;clear x3;go_wp2_with fail
         go_roundg (mu (itU (k+1) x))
         case measure=>have:=uH M3;have:=uH hm;omega
         case rel=>exact⟨k+1,by go_num,rfl,HK,R3,Nat.le_refl _,h3,X3⟩
   ·have h1:¬(k:Int)<(n:Int):=by omega
    have hkn2:=uU (show k=n by have:=uH hkn;omega)
    have Q:=uU (show ∃T,zV (itU k x).phase b=.iface T (.agg #[.pointer (some ⟨b,0,none⟩)])/\∀W,(binOp .neq 182 (.iface T (.agg #[.pointer (some ⟨b,0,none⟩)])) .nilIface).run Tryz.prog W=.ok (.bool true) W by
     have hp:=SK.r1.phase;have h:(itU k x).phase=1\/(itU k x).phase=2\/(itU k x).phase=3\/(itU k x).phase=4\/(itU k x).phase=5\/(itU k x).phase=6:=by omega
     rcases h with e | e | e | e | e | e
     ·exact⟨_,by rw[e];rfl,b4o b⟩
     ·exact⟨_,by rw[e];rfl,b8h b⟩
     ·exact⟨_,by rw[e];rfl,b4p b⟩
     ·exact⟨_,by rw[e];rfl,b8i b⟩
     ·exact⟨_,by rw[e];rfl,b8j b⟩
     ·exact⟨_,by rw[e];rfl,b8k b⟩)
    obtain⟨T,e1,q1⟩:=Q;rw[e1];clear p0 e1;go_wp2_with fail;go_ret;exact⟨k,rfl,⟨hr,hkn,.inl hkn2⟩,hG,hxr⟩
theorem c8g{w:World}{p:Addr}{v:Value}(h:w.cell? p=some v):w.setCell p v=w:=by
 have key:(w.setCell p v).heap=w.heap:=by
  unfold World.cell? at h;unfold World.setCell;apply Array.ext_getElem?;intro i;rw[Array.getElem?_modify];by_cases e:p.block=i
  ·subst e;rw[if_pos rfl];cases hh:w.heap[p.block]? with
   | none=>rfl
   | some o=>
    rw[hh] at h;cases o with
    | cells c t f=>
     simp only at h;by_cases hs:p.spot.isSome=true
     ·simp [hs] at h
     ·simp only [hs] at h;simp only [Option.map_some,hs]
      congr 1
      have hc:c.setIfInBounds p.off v=c:=by
       apply Array.ext_getElem?;intro k;rw[Array.getElem?_setIfInBounds];by_cases e2:p.off=k
       ·subst e2;rw[if_pos rfl];have:=(Array.getElem?_eq_some_iff.1 h).1;rw[if_pos this];exact h.symm
       ·rw[if_neg e2]
      simp [hc]
    | _=>simp at h
  ·rw[if_neg e]
 unfold World.setCell at key ⊢;simp only at key;rw[key]
theorem c4t:(Tryz.prog.info? 124).map (λi=>(i.zero,i.size,i.bytes))=some (some (.agg #[.int .i64 0,.pointer none]),2,16):=by kernel_rfl
theorem c4u(base:Option Addr)(l n:Nat)(w:World)(hn:n=0):
  Calls Tryz.prog 140 #[.slice base l l,.int .i64 n] w λe w'=>e=.returned (.slice base l l)/\w'=w:=by
 subst hn;have h2:wrap64 ((l:Int)-(l:Int))=0:=by unfold wrap64;omega
 go_enter Tryz.func140,Tryz.ntmps140
 go_wp2
 go_ret;exact⟨rfl,rfl⟩
def c8h(w:World)(l n:Nat)(cs:List Value)(e:Ending)(w':World):Prop:=∃k m,e=.returned (.slice (some ⟨w.heap.size,0,none⟩) l k)/\l+n<=k/\m.size=(k-l)*2/\w'=w.drew.alloc (.cells (cs.toArray++m) 124)
theorem c8i(bn l n:Nat)(cs:List Value)(w:World)(hl:l+n<=8000)(hn:0<n)(hcl:cs.length=l*2)(hcs:∀j v,cs[j]?=some v->w.cell? ⟨bn,j,none⟩=some v):
  Calls Tryz.prog 140 #[.slice (some ⟨bn,0,none⟩) l l,.int .i64 n] w λe w'=>c8h w l n cs e w':=by
 obtain⟨i0,hi0,hz0,hz1,hz2⟩:∃i,Tryz.prog.info? 124=some i/\i.zero=some (.agg #[.int .i64 0,.pointer none])/\i.size=2/\i.bytes=16:=by
  have:=c4t;cases h:Tryz.prog.info? 124 with
  | none=>rw[h] at this;simp at this
  | some i=>rw[h] at this;simp at this;exact⟨i,rfl,this.1,this.2.1,this.2.2⟩
 have h2:wrap64 ((l:Int)-(l:Int))=0:=by unfold wrap64;omega
 have hold:(Builtin.firstCells i0.size l (.slice (some ⟨bn,0,none⟩) l l)).run Tryz.prog w.drew=.ok cs.toArray w.drew:=run_firstCells_some w.drew i0.size l ⟨bn,0,none⟩ l l cs (by rw[hcl,hz1]) (λj v hj=>by
  have:(⟨bn,0,none⟩:Addr).add j=⟨bn,j,none⟩:=by unfold Addr.add;split <;> simp_all
  rw[this];exact hcs j v hj)
 have hrz:∀ty,(Builtin.append_ #[117,3] ty #[.slice (some ⟨bn,0,none⟩) l l,.int .i64 (n:Int)]).run Tryz.prog w=.ok (.slice (some ⟨w.heap.size,0,none⟩) (l+n) (grownCap w (l+n) l 124)) (w.drew.alloc (.cells (cs.toArray++Builtin.zeroCells (Value.agg #[.int .i64 0,.pointer none]).cells n++Builtin.zeroCells (Value.agg #[.int .i64 0,.pointer none]).cells (grownCap w (l+n) l 124-(l+n))) 124)):=λty=>
  Go.Lib.run_append_grow_zeros w 117 3 ty 124 i0 _ .i64 .i64 Tryz.underlying117 Tryz.underlying3 hi0 hz0 (some ⟨bn,0,none⟩) l l cs hold n hn (by omega) (by omega) (by omega) (by rw[hz2];omega) (growslice_fits (by omega) (by rw[hz2];omega))
 have hGn:l+n<=grownCap w (l+n) l 124:=grownCap_ge w _ _ _;obtain⟨G,hG⟩:∃G,G=grownCap w (l+n) l 124:=⟨_,rfl⟩;rw[<-hG] at hrz hGn
 have hG63:G<=9223372036854775807:=by
  have:=grownCap_le_maxLen w (l+n) l 124 (by unfold maxLen;omega);rw[<-hG] at this;unfold maxLen at this;omega
 have n0:¬((n:Int)<0):=by omega
 have n1:wrap64 ((n:Int)-0)=n:=by unfold wrap64;omega
 have n2:(n:Int) > 0:=by omega
 have HGN:=uU hGn;clear hold hG hcs hcl;go_enter Tryz.func140,Tryz.ntmps140;go_wp2_with (at_builtin;refine Go.Lib.wpList_append_run _ rfl _ _ _ _ rfl _ _ rfl rfl _ _ (hrz _) ?_);go_ret;exact⟨G,Builtin.zeroCells (Value.agg #[.int .i64 0,.pointer none]).cells n++Builtin.zeroCells (Value.agg #[.int .i64 0,.pointer none]).cells (G-(l+n)),rfl,HGN,by have:=uH HGN;simp only [Array.size_append,Go.size_zeroCells];show n*2+(G-(l+n))*2=_;omega,rfl⟩
def tX(cB cO:Nat->Nat)(n:Nat):List Value:=(List.range (n*2)).map (λj=>if j % 2=0 then iv (j / 2:Nat) else .pointer (some ⟨cB (j / 2),cO (j / 2),none⟩))
theorem b8m(cB cO:Nat->Nat)(n j:Nat)(h:j<n*2):(tX cB cO n)[j]?=some (if j % 2=0 then iv (j / 2:Nat) else .pointer (some ⟨cB (j / 2),cO (j / 2),none⟩)):=by
 unfold tX;rw[List.getElem?_map,List.getElem?_range h];rfl
theorem SAt.regrow[Inhabited uN](h:SAt B w b x ar kr v4 v8 br cB cO bn pb pa pk kn hd vf F vk [] role)(hg:x.gray=[])(hB:B<=w.heap.size)(k:Nat)(m:Array Value)(T:TypeId)(hmk:x.cells.length<=k/\m.size=(k-x.cells.length)*2):
  SAt B ((w.drew.alloc (.cells ((tX cB cO x.cells.length).toArray++m) T)).setCell ⟨b,13,none⟩ (.slice (some ⟨w.heap.size,0,none⟩) x.cells.length k)) b x ar kr v4 v8 br cB cO w.heap.size pb pa pk k hd vf F vk [] (λq=>if q=w.heap.size then 1 else role q):=by
 have hb:=h.sb.nb.1;have nb:b≠w.heap.size:=by omega
 have far1:∀q,q<w.heap.size->(w.drew.alloc (.cells ((tX cB cO x.cells.length).toArray++m) T)).heap[q]?=w.heap[q]?:=λq hq=>Below.heap_alloc w.drew _ q hq
 have far:∀q,q<w.heap.size->q≠b->((w.drew.alloc (.cells ((tX cB cO x.cells.length).toArray++m) T)).setCell ⟨b,13,none⟩ (.slice (some ⟨w.heap.size,0,none⟩) x.cells.length k)).heap[q]?=w.heap[q]?:=λq hq hn=>(Below.heap_setCell _ _ _ _ hn).trans (far1 q hq)
 have cb:∀o,o≠13->((w.drew.alloc (.cells ((tX cB cO x.cells.length).toArray++m) T)).setCell ⟨b,13,none⟩ (.slice (some ⟨w.heap.size,0,none⟩) x.cells.length k)).cell? ⟨b,o,none⟩=w.cell? ⟨b,o,none⟩:=λo ho=>(uC _ (.inr (λe=>ho e.symm))).trans (World.cell?_of_block (a:=⟨b,o,none⟩) (far1 b hb))
 have hsz:w.heap.size+1=((w.drew.alloc (.cells ((tX cB cO x.cells.length).toArray++m) T)).setCell ⟨b,13,none⟩ (.slice (some ⟨w.heap.size,0,none⟩) x.cells.length k)).heap.size:=by simp [World.setCell]
 have hnew:((w.drew.alloc (.cells ((tX cB cO x.cells.length).toArray++m) T)).setCell ⟨b,13,none⟩ (.slice (some ⟨w.heap.size,0,none⟩) x.cells.length k)).heap[w.heap.size]?=some (.cells ((tX cB cO x.cells.length).toArray++m) T):=(Below.heap_setCell _ _ _ _ (λe=>nb e.symm)).trans (heap_alloc_new w.drew _)
 have cn:∀j,j<x.cells.length*2->((w.drew.alloc (.cells ((tX cB cO x.cells.length).toArray++m) T)).setCell ⟨b,13,none⟩ (.slice (some ⟨w.heap.size,0,none⟩) x.cells.length k)).cell? ⟨w.heap.size,j,none⟩=some (if j % 2=0 then iv (j / 2:Nat) else .pointer (some ⟨cB (j / 2),cO (j / 2),none⟩)):=λj hj=>by
  rw[cell_of_row _ w.heap.size j _ _ (0,0) hnew,<-b8m cB cO x.cells.length j hj];have hl:j<(tX cB cO x.cells.length).toArray.size:=by simp [tX];exact hj
  rw[Array.getElem?_append_left hl];simp
 have rb:∀q,role q≠0->q≠b:=λq hq e=>hq (by rw[e];exact h.sp.b)
 have nfb:Nf1 b ((w.drew.alloc (.cells ((tX cB cO x.cells.length).toArray++m) T)).setCell ⟨b,13,none⟩ (.slice (some ⟨w.heap.size,0,none⟩) x.cells.length k)):=(hY h.sb.nb (far1 b hb) (by simp)).set _ _;have c13:(w.drew.alloc (.cells ((tX cB cO x.cells.length).toArray++m) T)).cell? ⟨b,13,none⟩=some (.slice (some ⟨bn,0,none⟩) x.cells.length kn):=(World.cell?_of_block (a:=⟨b,13,none⟩) (far1 b hb)).trans h.sb.n13;refine⟨⟨h.sb.bx.of λo ho=>cb o (by omega),h.sb.ha,World.cell?_setCell_same _ _ _ c13,λi hi=>⟨?_,?_⟩,⟨(cb 14 (by omega)).trans h.sb.fr.hd,nfb.2 14,uQ h.sb.fr.own (λq hq=>far q (h.sb.fr.own.lt q hq).2 (rb q (by rw[h.sp.f q hq];omega))),h.sb.fr.apart⟩,?_,(cb 4017 (by omega)).trans h.sb.k0,?_,nfb,⟨h.sb.lo.1,hB,by omega,?_⟩⟩,h.rw.same (by omega) (λhl=>far br (h.rw.nr hl).1.1 (rb br (by rw[h.sp.r hl];omega))) (λq hq=>far (cB q) (h.rw.nc q hq).1.1 (rb (cB q) (by rw[h.sp.c q hq];omega))) (λq hq hl=>far (pb q) (h.rw.pl q hq hl).2.1.1 (rb (pb q) (by rw[h.sp.p q hq hl];omega))),?_,h.pr.of (λq hq h1=>far q hq (rb q (by rw[h1];omega))) (λq hq h1=>by(try dsimp only);rw[if_neg (by omega)];exact h1)⟩
 ·have:=cn (i*2) (by omega);rw[if_pos (by omega),show i*2 / 2=i by omega] at this;exact this
 ·have:=cn (i*2+1) (by omega);rw[if_neg (by omega),show(i*2+1) / 2=i by omega] at this;exact this
 ·have r:=h.sb.rg;rw[hg] at r;rw[hg];exact⟨r.h0,r.hl,(cb 4015 (by omega)).trans r.r0,(cb 4016 (by omega)).trans r.r1,λi hi=>by simp at hi,λj hj=>let ⟨v,q⟩:=r.ro j hj;⟨v,(cb _ (by omega)).trans q⟩⟩
 ·have:=h.sb.kp;exact uQ (by simpa using this) (λq hq=>far q (h.sb.kp.lt q hq).2 (rb q (by rw[h.sp.k q hq];omega)))
 ·intro j hj;have hl:j<((tX cB cO x.cells.length).toArray++m).size:=by simp [tX];omega
  refine⟨⟨((tX cB cO x.cells.length).toArray++m)[j],?_⟩,?_⟩
  ·rw[cell_of_row _ w.heap.size j _ _ (0,0) hnew];exact Array.getElem?_eq_getElem hl
  ·rw[World.frozen?_setCell];simp [go_sem]
 ·have ne:∀q,q<w.heap.size->¬q=w.heap.size:=λq hq=>by omega
  refine⟨?_,if_pos rfl,λhl=>?_,λq hq=>?_,λq hq=>?_,λq hq=>?_,λq hq hl=>?_⟩
  ·rw[if_neg nb];exact h.sp.b
  ·rw[if_neg (ne br (h.rw.nr hl).1.1)];exact h.sp.r hl
  ·rw[if_neg (ne (cB q) (h.rw.nc q hq).1.1)];exact h.sp.c q hq
  ·rw[if_neg (ne q (h.sb.fr.own.lt q hq).2)];exact h.sp.f q hq
  ·rw[if_neg (ne q (h.sb.kp.lt q hq).2)];exact h.sp.k q hq
  ·rw[if_neg (ne (pb q) (h.rw.pl q hq hl).2.1.1)];exact h.sp.p q hq hl
theorem c8j[Inhabited uN](h:SAt B w b x ar kr v4 v8 br cB cO bn pb pa pk x.cells.length hd vf F vk [] role)(hg:x.gray=[])(hB:B<=w.heap.size)(m:Nat)(hm:x.cells.length+m<=8000):
  Calls Tryz.prog 140 #[.slice (some ⟨bn,0,none⟩) x.cells.length x.cells.length,.int .i64 m] w λe w'=>∃bn' kn',e=.returned (.slice (some ⟨bn',0,none⟩) x.cells.length kn')/\Hid (∃role',SAt B (w'.setCell ⟨b,13,none⟩ (.slice (some ⟨bn',0,none⟩) x.cells.length kn')) b x ar kr v4 v8 br cB cO bn' pb pa pk kn' hd vf F vk [] role')/\Hid (w'.cell? ⟨b,13,none⟩=some (.slice (some ⟨bn,0,none⟩) x.cells.length x.cells.length)/\w'.frozen? ⟨b,13,none⟩=false/\Ext w w'/\x.cells.length+m<=kn'):=by
 rcases Nat.eq_zero_or_pos m with e | e
 ·refine(c4u (some ⟨bn,0,none⟩) x.cells.length m w e).mono ?_;rintro e w' ⟨rfl,rfl⟩;refine⟨bn,x.cells.length,rfl,⟨role,?_⟩,h.sb.n13,h.sb.nb.2 13,Ext.refl _,by omega⟩;rw[c8g h.sb.n13];exact h
 ·refine(c8i bn x.cells.length m (tX cB cO x.cells.length) w hm e (by simp [tX]) (λj v hj=>?_)).mono ?_
  ·have hj2:j<x.cells.length*2:=by have:=(List.getElem?_eq_some_iff.1 hj).1;simpa [tX] using this
   rw[b8m cB cO x.cells.length j hj2] at hj;rw[<-hj];obtain⟨p0,p1⟩:=h.sb.nd (j / 2) (by omega);by_cases ev:j % 2=0
   ·rw[if_pos ev];rw[show j / 2*2=j by omega] at p0;exact p0
   ·rw[if_neg ev];rw[show j / 2*2+1=j by omega] at p1;exact p1
  ·rintro e w' ⟨k,mm,rfl,hk,hmm,rfl⟩;have xw:Ext w (w.drew.alloc (.cells ((tX cB cO x.cells.length).toArray++mm) 124)):=(Ext.refl w).drew.alloc _;exact⟨w.heap.size,k,rfl,⟨_,h.regrow hg hB k mm _ ⟨by omega,hmm⟩⟩,xw.keep h.sb.n13,((cZ xw).2 b 13 h.sb.nb.1).trans (h.sb.nb.2 13),xw,hk⟩
end Go.Proofs.YtddkhnclmeikfaaGreat
