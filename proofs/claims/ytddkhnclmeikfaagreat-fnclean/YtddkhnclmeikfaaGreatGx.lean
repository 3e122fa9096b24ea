import Derived.Test.YtddkhnclmeikfaaGreatPh
import Derived.Test.YtddkhnclmeikfaaGreatPl
import Derived.Test.YtddkhnclmeikfaaGreatPt
import Derived.Lib.AppendZerosOnto
import Derived.Lib.Walk
set_option maxRecDepth 100000
set_option maxHeartbeats 4000000
namespace Go.Proofs.YtddkhnclmeikfaaGreat
open Go.RowKit
attribute [local go_sem ↓] Go.wp_at_zero Go.wp_at_succ
variable{B b C kr br bn hd kn:Nat}{w:World}{x:Hp}{ar:Option Addr}{v4 v8 vf vk:Value}{cB cO pb pk role:Nat->Nat}{pa:Nat->Option Addr}{F:List Int}{K:List Nat}
theorem d0d[Inhabited uQ](h:SAt B w b x ar kr v4 v8 br cB cO bn pb pa pk kn hd vf F vk K role)(hp:x.E=6)(he:x.I=0)(hr:0<=x.Q/\x.Q<=1000000000)(a:World)(ha:a.heap.size<=B)(hx:Ext a w):
  Calls Tryz.prog 336 #[.agg #[.pointer (some ⟨b,0,none⟩)]] w λe w'=>e=.returned (zK (cN x).E b)/\Hid (SAt B w' b (cN x) ar kr v4 v8 br cB cO bn pb pa pk kn hd vf F vk K role)/\Ext a w':=by
 have E:=uU (show cN x={ dN x 0 0 with Q:=if x.Q<1000000000 then x.Q+1 else x.Q } by unfold cN;rw[if_pos he];rfl);have H:=uU h;have HP:=uU hp;have HR:=uU hr;have c6:=h.sb.bx.2.2.2.2.2.2.1;rw[he] at c6;have hbw:b<w.heap.size:=h.sb.nb.1;have XA2:=uU ((Ext.refl w).alloc (.cells #[.pointer (some ⟨b,0,none⟩)] 238));clear h hp he hr;go_enter Tryz.func336,Tryz.ntmps336;go_wp2_with fail;refine(turn_6 (H.ext XA2) HP HR a ha (hx.trans XA2)).mono ?_;rintro e w2 ⟨rfl,h2,x2⟩;go_wp2_with fail;go_ret;exact⟨by rw[uH E];rfl,by rw[uH E];exact uH h2,x2⟩
theorem c5z[Inhabited uQ](h:SAt B w b x ar kr v4 v8 br cB cO bn pb pa pk kn hd vf F vk K role)(n8:x.A.length<=8000)(hp:x.E=6)(i:Nat)(hi:x.I=(i:Int)+1)(hin:i<x.A.length)(hk:x.A.length<=kn)(ho:Ho F)(hl:F.length<=1000000000)(a:World)(ha:a.heap.size<=B)(hx:Ext a w):
  Calls Tryz.prog 336 #[.agg #[.pointer (some ⟨b,0,none⟩)]] w λe w'=>e=.returned (zK (cN x).E b)/\Hid (∃pa' pk' vf' F' role',SAt B w' b (cN x) ar kr v4 v8 br cB cO bn pb pa' pk' kn hd vf' F' vk K role'/\Ho F'/\(((x.c i).st=2/\F'.Perm ((i:Int)::F))\/((x.c i).st≠2/\F'=F)))/\Ext a w':=by
 have EU:=uU (show cN x=zU (dH x i) i by unfold cN;rw[if_neg (by omega),show(x.I-1).toNat=i by omega]);have EP:=uU (show(cN x).E=6 by rw[uH EU];unfold zU;split <;> (unfold dH;exact hp));have hbw:b<w.heap.size:=h.sb.nb.1;have lo:=h.sb.lo.1;have H:=uU h;have XA:=(Ext.refl w).alloc (.cells #[.pointer (some ⟨b,0,none⟩)] 238);have XA2:=uU XA;have c6:=h.sb.bx.2.2.2.2.2.2.1;rw[hi] at c6;have f6:=h.sb.nb.2 6;have hi0:((i:Int)+1 == 0)=false:=by simp;omega
 have HBC:=uU (h.rw.nc i hin);have FOW:=uU (show ∀q,vf.ownBlock=some q->q<w.heap.size from λq hq=>(h.sb.fr.own.lt q hq).2);have HO:=uU (And.intro ho hl);have nsb:¬w.heap.size=b:=by omega
 have nbs:¬b=w.heap.size:=by omega
 clear h hp hi XA ho hl;go_enter Tryz.func336,Tryz.ntmps336;go_wp2_with fail;obtain⟨W1,hW1⟩:∃W,W=(w.setCell ⟨b,6,none⟩ (iv i)).alloc (.cells #[.pointer (some ⟨b,0,none⟩)] 238):=⟨_,rfl⟩;have H1:=uU (show SAt B W1 b { x with I:=(i:Int) } ar kr v4 v8 br cB cO bn pb pa pk kn hd vf F vk K role by rw[hW1];exact(H.I (i:Int)).ext ((Ext.refl _).alloc _));have X1:=uU (show Ext a W1 by rw[hW1];exact(hx.setCell (p:=⟨b,6,none⟩) (show a.heap.size<=b by omega) _).alloc _)
 have r1:W1.cell? ⟨w.heap.size,0,none⟩=some (.pointer (some ⟨b,0,none⟩)):=by
  rw[hW1];have:w.heap.size=(w.setCell ⟨b,6,none⟩ (iv i)).heap.size:=by simp [World.setCell]
  rw[this];simp [go_sem]
 rw[<-hW1];clear hW1 c6 f6;refine(a1q b x.A.length kn bn i _ H1.sb.bx.2.2.2.2.2.2.1 H1.sb.n13 hin).mono ?_;rintro e w2 ⟨rfl,x2⟩;have H2:=uU (H1.ext x2);have X2:=uU (X1.trans x2);have r2:=x2.keep r1;obtain⟨m0,m1⟩:=H2.sb.nd i hin;have p0:w2.cell? ⟨cB i,cO i,none⟩=some (iv (x.c i).st):=(H2.rw.s i hin).1;have hs2:w.heap.size<w2.heap.size:=uL r2;clear r1 x2 H1 X1;cases q2:((x.c i).st == 2)
 ·have ES:=uU (show cN x=zU { x with I:=(i:Int) } i by rw[uH EU];unfold dH;rw[if_neg (by simpa using q2)]);have NS:=uU (show(x.c i).st≠2 by simpa using q2);have n13:w2.cell? ⟨b,13,none⟩=some (.slice (some ⟨bn,0,none⟩) x.A.length kn):=H2.sb.n13;go_wp2_with fail;clear q2;by_cases hlast:i+1=x.A.length
  ·cases q0:((x.c i).st == 0)
   ·skip
    have EF:=uU (show cN x={ x with A:=x.A,I:=(i:Int) } by rw[uH ES];unfold zU;rw[if_neg (λe=>by have:=e.2;simp at q0;exact q0 this)]);have g1:((i:Int) == (x.A.length:Int)-1)=true:=by simp;omega
    go_quiet (fail);go_wp2_with fail;go_ret;exact⟨by rw[uH EP];rfl,by rw[uH EF];exact⟨_,_,_,_,_,H2.ext ((Ext.refl _).drewN _),HO.1,Or.inr ⟨NS,rfl⟩⟩,X2.drewN _⟩
   ·skip
    have EF:=uU (show cN x={ x with A:=(x.A).take i,I:=(i:Int) } by rw[uH ES];unfold zU;rw[if_pos ⟨by simpa using hlast,(show(x.c i).st=0 by simpa using q0)⟩]);have g1:((i:Int) == (x.A.length:Int)-1)=true:=by simp;omega
    have k1:(i:Int)<=(kn:Int):=by omega
    have k0:(0:Int)<=(i:Int):=by omega
    have f13:=H2.sb.nb.2 13;have hbW:b<w2.heap.size:=H2.sb.nb.1;have FN:=uU (show ∀W',Ext w2 W'->SAt B (W'.setCell ⟨b,13,none⟩ (.slice (some ⟨bn,0,none⟩) i kn)) b { x with A:=(x.A).take i,I:=(i:Int) } ar kr v4 v8 br cB cO bn pb pa pk kn hd vf F vk K role/\Ext a (W'.setCell ⟨b,13,none⟩ (.slice (some ⟨bn,0,none⟩) i kn)) from λW' xw=>⟨(H2.ext xw).drop i (by simpa using hlast),(X2.trans xw).setCell (p:=⟨b,13,none⟩) (show a.heap.size<=b by omega) _⟩);clear hlast;go_quiet (fail);obtain⟨d1,hd1⟩:∃m,m=nq:=⟨_,rfl⟩;go_wp2_with fail
    go_region
    all_goals
     go_wp2_with fail;go_ret
     first | exact⟨by rw[uH EP];rfl,by rw[uH EF];exact⟨_,_,_,_,_,((FN _ ((Ext.refl _).drewN _)).1).ext (Ext.refl _).drew,HO.1,Or.inr ⟨NS,rfl⟩⟩,((FN _ ((Ext.refl _).drewN _)).2).drew⟩ | exact⟨by rw[uH EP];rfl,by rw[uH EF];exact⟨_,_,_,_,_,(FN _ ((Ext.refl _).drewN _)).1,HO.1,Or.inr ⟨NS,rfl⟩⟩,(FN _ ((Ext.refl _).drewN _)).2⟩
  ·skip
   have EF:=uU (show cN x={ x with A:=x.A,I:=(i:Int) } by rw[uH ES];unfold zU;rw[if_neg (λe=>hlast (by simpa using e.1))]);have g1:((i:Int) == (x.A.length:Int)-1)=false:=by simp;omega
   go_quiet (fail);go_wp2_with fail;go_ret;exact⟨by rw[uH EP];rfl,by rw[uH EF];exact⟨_,_,_,_,_,H2.ext ((Ext.refl _).drewN _),HO.1,Or.inr ⟨NS,rfl⟩⟩,X2.drewN _⟩
 ·have ES:=uU (show cN x=zU { x with A:=x.A.set i Cl0,I:=(i:Int) } i by rw[uH EU];unfold dH;rw[if_pos (by simpa using q2)]);have NS:=uU (show(x.c i).st=2 by simpa using q2);go_wp2_with fail;refine(a9x H2 i hin HO.1 HO.2 a ha X2).mono ?_;rintro e w3 ⟨rfl,g3,x3⟩;obtain⟨pa',pk',vf',F',role',h3,ho3,pm3⟩:=g3.1;have r3:w3.cell? ⟨w.heap.size,0,none⟩=some (.pointer (some ⟨b,0,none⟩)):=(World.cell?_of_block (a:=⟨w.heap.size,0,none⟩) (g3.2 w.heap.size hs2 nsb (by have:=HBC.1.1;omega) (λe=>Nat.lt_irrefl _ (FOW _ e)))).trans r2;have H3:=uU (show SAt B w3 b { x with A:=x.A.set i Cl0,I:=(i:Int) } ar kr v4 v8 br cB cO bn pb pa' pk' kn hd vf' F' vk K role' from h3);have X3:=uU x3;have HP3:=uU (And.intro ho3 pm3);clear g3 x3 h3 ho3 pm3 m0 m1 p0 r2 hs2 H2 X2 q2;have hl3:(x.A.set i Cl0).length=x.A.length:=by simp
  obtain⟨m0,m1⟩:=H3.sb.nd i (by rw[hl3];exact hin)
  have p0:w3.cell? ⟨cB i,cO i,none⟩=some (iv 0):=by
   have:=(H3.rw.s i (by rw[hl3];exact hin)).1;exact this.trans (by simp [Hp.c,hin];rfl)
  have n13:w3.cell? ⟨b,13,none⟩=some (.slice (some ⟨bn,0,none⟩) x.A.length kn):=by have:=H3.sb.n13;rw[hl3] at this;exact this
  have hs3:w.heap.size<w3.heap.size:=uL r3;clear hl3;go_wp2_with fail;by_cases hlast:i+1=x.A.length
  ·skip
   have EF:=uU (show cN x={ x with A:=(x.A.set i Cl0).take i,I:=(i:Int) } by rw[uH ES];unfold zU;rw[if_pos ⟨by simpa using hlast,by simp [Hp.c,hin];rfl⟩]);have g1:((i:Int) == (x.A.length:Int)-1)=true:=by simp;omega
   have k1:(i:Int)<=(kn:Int):=by omega
   have k0:(0:Int)<=(i:Int):=by omega
   have f13:=H3.sb.nb.2 13;have hbW:b<w3.heap.size:=H3.sb.nb.1;have FN:=uU (show ∀W',Ext w3 W'->SAt B (W'.setCell ⟨b,13,none⟩ (.slice (some ⟨bn,0,none⟩) i kn)) b { x with A:=(x.A.set i Cl0).take i,I:=(i:Int) } ar kr v4 v8 br cB cO bn pb pa' pk' kn hd vf' F' vk K role'/\Ext a (W'.setCell ⟨b,13,none⟩ (.slice (some ⟨bn,0,none⟩) i kn)) from λW' xw=>⟨(H3.ext xw).drop i (by simpa using hlast),(X3.trans xw).setCell (p:=⟨b,13,none⟩) (show a.heap.size<=b by omega) _⟩);clear hlast;go_quiet (fail);obtain⟨d1,hd1⟩:∃m,m=nq:=⟨_,rfl⟩;go_wp2_with fail
   go_region
   all_goals
    go_wp2_with fail;go_ret
    first | exact⟨by rw[uH EP];rfl,by rw[uH EF];exact⟨_,_,_,_,_,((FN _ ((Ext.refl _).drewN _)).1).ext (Ext.refl _).drew,HP3.1,Or.inl ⟨NS,HP3.2⟩⟩,((FN _ ((Ext.refl _).drewN _)).2).drew⟩ | exact⟨by rw[uH EP];rfl,by rw[uH EF];exact⟨_,_,_,_,_,(FN _ ((Ext.refl _).drewN _)).1,HP3.1,Or.inl ⟨NS,HP3.2⟩⟩,(FN _ ((Ext.refl _).drewN _)).2⟩
  ·skip
   have EF:=uU (show cN x={ x with A:=x.A.set i Cl0,I:=(i:Int) } by rw[uH ES];unfold zU;rw[if_neg (λe=>hlast (by simpa using e.1))]);have g1:((i:Int) == (x.A.length:Int)-1)=false:=by simp;omega
   go_quiet (fail);go_wp2_with fail;go_ret;exact⟨by rw[uH EP];rfl,by rw[uH EF];exact⟨_,_,_,_,_,H3.ext ((Ext.refl _).drewN _),HP3.1,Or.inl ⟨NS,HP3.2⟩⟩,X3.drewN _⟩
def SOq[Inhabited uQ](C B:Nat)(w:World)(b:Nat)(x:Hp):Prop:=∃ar kr a4 n4 k4 a8 m8 k8 br cB cO bn pb pa pk kn hd vf F vk K role,SAt B w b x ar kr (.slice a4 n4 k4) (.slice a8 m8 k8) br cB cO bn pb pa pk kn hd vf F vk K role/\tN C x F K/\2*x.M<=(kn:Int)/\(default:uQ).z bn=none
theorem SOq.ext[Inhabited uQ]{w':World}(h:SOq C B w b x)(e:Ext w w'):SOq C B w' b x:=by
 obtain⟨ar,kr,a4,n4,k4,a8,m8,k8,br,cB,cO,bn,pb,pa,pk,kn,hd,vf,F,vk,K,role,h,i⟩:=h;exact⟨ar,kr,a4,n4,k4,a8,m8,k8,br,cB,cO,bn,pb,pa,pk,kn,hd,vf,F,vk,K,role,h.ext e,i⟩
theorem a7a(x:Hp)(y:Wd):(shadeW x y).M=x.M:=by
 unfold shadeW
 split
 ·exact(cV x _).1
 ·rfl
theorem b0v:∀(ys:List Wd) (z:Hp),(ys.foldl shadeW z).M=z.M
 | [],_=>rfl
 | y::ys,z=>(b0v ys (shadeW z y)).trans (a7a z y)
theorem uroom1(x:Hp):(eZ x).M=x.M:=by
 unfold eZ
 split
 ·rfl
 ·by_cases e:tJ (x.c x.I.toNat)=true
  ·simp only [if_pos e];exact(cV x _).1
  ·simp only [if_neg e]
theorem uroom2(x:Hp):(dY x).M=x.M:=by
 unfold dY
 split
 ·split
  ·exact(a7a _ _).trans (a7a _ _)
  ·rfl
 ·split
  ·exact b0v x.B x
  ·exact b0v x.B x
theorem b7b(x:Hp):(dQ x).M=x.M:=by
 unfold dQ
 split
 ·rfl
 ·split <;> rfl
theorem uroom4(x:Hp):(unit4 x).M=x.M:=by
 unfold unit4
 split <;> rfl
theorem uroom5(x:Hp):(eH x).M=x.M:=by
 unfold eH
 split
 ·rfl
 ·split <;> rfl
theorem d0e(x:Hp):(cN x).M=x.M:=by
 unfold cN zU
 split
 ·rfl
 ·split <;> rfl
theorem c6a[Inhabited uQ](h:SOq C B w b x)(s:Snd x)(hp:x.E=1)(a:World)(ha:a.heap.size<=B)(hx:Ext a w):
  Calls Tryz.prog 328 #[.agg #[.pointer (some ⟨b,0,none⟩)]] w λe w'=>e=.returned (zK (eZ x).E b)/\Hid (SOq C B w' b (eZ x))/\Ext a w':=by
 obtain⟨ar,kr,a4,n4,k4,a8,m8,k8,br,cB,cO,bn,pb,pa,pk,kn,hd,vf,F,vk,K,role,h,i,hk⟩:=h;have hh:=s.r1.I;have lk:2*(eZ x).M<=(kn:Int)/\(default:uQ).z bn=none:=by rw[uroom1];exact hk
 by_cases he:x.I=x.A.length
 ·refine(c5j h hp he a ha hx).mono ?_;rintro e w' ⟨rfl,h2,x2⟩;exact⟨rfl,⟨_,_,_,_,_,_,_,_,_,_,_,_,_,_,_,_,_,_,_,_,_,_,h2,inv1 i hp,lk⟩,x2⟩
 ·refine(c1z h s hp x.I.toNat (by omega) (by omega) a ha hx).mono ?_;rintro e w' ⟨rfl,h2,x2⟩;exact⟨rfl,⟨_,_,_,_,_,_,_,_,_,_,_,_,_,_,_,_,_,_,_,_,_,_,h2,inv1 i hp,lk⟩,x2⟩
theorem c6b[Inhabited uQ]{C B:Nat}{w:World}{b:Nat}{x:Hp}(h:SOq C B w b x)(s:Snd x)(hp:x.E=2)(a:World)(ha:a.heap.size<=B)(hx:Ext a w):
  Calls Tryz.prog 329 #[.agg #[.pointer (some ⟨b,0,none⟩)]] w λe w'=>e=.returned (zK (dY x).E b)/\Hid (SOq C B w' b (dY x))/\Ext a w':=by
 obtain⟨ar,kr,a4,n4,k4,a8,m8,k8,br,cB,cO,bn,pb,pa,pk,kn,hd,vf,F,vk,K,role,h,i,hk⟩:=h;have hh:=s.r1.sub;have n8:=s.ok.n8;have lk:2*(dY x).M<=(kn:Int)/\(default:uQ).z bn=none:=by rw[uroom2];exact hk
 cases hg:x.D with
 | nil=>
  refine(c5w h s hp hg a ha hx).mono ?_;rintro e w' ⟨rfl,h2,x2⟩;exact⟨rfl,⟨_,_,_,_,_,_,_,_,_,_,_,_,_,_,_,_,_,_,_,_,_,_,h2,inv2 i hp n8,lk⟩,x2⟩
 | cons g G=>
  obtain⟨g0,g1⟩:=s.r5.2.2 g (by rw[hg];simp);obtain⟨j,rfl⟩:∃j:Nat,g=(j:Int):=⟨g.toNat,by omega⟩;by_cases hs:x.sub<((x.c j).F.length:Int)
  ·refine(c5v h s hp j G hg (by omega) x.sub.toNat (by omega) (by omega) a ha hx).mono ?_;rintro e w' ⟨rfl,h2,x2⟩;exact⟨rfl,⟨_,_,_,_,_,_,_,_,_,_,_,_,_,_,_,_,_,_,_,_,_,_,h2,inv2 i hp n8,lk⟩,x2⟩
  ·refine(c2c h n8 hp j G hg (by omega) hs a ha hx).mono ?_;rintro e w' ⟨rfl,h2,x2⟩;exact⟨rfl,⟨_,_,_,_,_,_,_,_,_,_,_,_,_,_,_,_,_,_,_,_,_,_,h2,inv2 i hp n8,lk⟩,x2⟩
theorem c6c[Inhabited uQ](h:SOq C B w b x)(hC:C<=1000000000)(s:Snd x)(hp:x.E=3)(a:World)(ha:a.heap.size<=B)(hx:Ext a w):
  Calls Tryz.prog 331 #[.agg #[.pointer (some ⟨b,0,none⟩)]] w λe w'=>e=.returned (zK (dQ x).E b)/\Hid (SOq C B w' b (dQ x))/\Ext a w':=by
 obtain⟨ar,kr,a4,n4,k4,a8,m8,k8,br,cB,cO,bn,pb,pa,pk,kn,hd,vf,F,vk,K,role,h,iv,hk⟩:=h;have hh:=s.r1.I;have n8:=s.ok.n8;by_cases he:x.I=x.A.length
 ·have e3:dQ x=dN x 4 0:=by unfold dQ;rw[if_pos he]
  refine(c5x h hp he a ha hx).mono ?_;rintro e w' ⟨rfl,h2,x2⟩;exact⟨rfl,⟨_,_,_,_,_,_,_,_,_,_,_,_,_,_,_,_,_,_,_,_,_,_,h2,by rw[e3];exact c9m iv hp he,by rw[b7b];exact hk⟩,x2⟩
 ·obtain⟨i,hi⟩:∃i:Nat,x.I=(i:Int):=⟨x.I.toNat,by omega⟩;have hin:i<x.A.length:=by omega
  have ei:x.I.toNat=i:=by omega
  cases q1:((x.c i).st == 1)
  ·have qn:(x.c i).st≠1:=by simpa using q1
   have e3:=b3x s i hi hin qn;have hv:=b0u (z:=dQ x) iv hp (by rw[e3];exact hp) i hi hin (by rw[e3]) (by rw[e3]) (λq _=>by rw[e3];rfl) iv.ho (.inl ⟨rfl,by rw[e3];exact id⟩);rw[if_neg (by rw[e3];exact qn),List.append_nil] at hv;refine(c2e h s hp i hi hin q1 a ha hx).mono ?_;rintro e w' ⟨rfl,h2,x2⟩;exact⟨rfl,⟨_,_,_,_,_,_,_,_,_,_,_,_,_,_,_,_,_,_,_,_,_,_,h2,hv,by rw[b7b];exact hk⟩,x2⟩
  ·have q1':(x.c i).st=1:=by simpa using q1
   cases q0:((x.c i).J == 0)
   ·have e3:dQ x={ x with A:=x.A.set i (a1i (x.c i)),I:=(i:Int)+1 }:=by
     unfold dQ;rw[if_neg he,ei,if_neg (by simp [whB,q0]),hi]
    have cs:∀q,(dQ x).c q=if q=i then a1i (x.c i) else x.c q:=λq=>by
     rw[e3];exact Hp.c_set x i (a1i (x.c i)) hin q
    have hv:=b0u (z:=dQ x) iv hp (by rw[e3];exact hp) i hi hin (by rw[e3]) (by rw[e3];simp) (λq hq=>by rw[cs,if_neg hq]) iv.ho (.inl ⟨rfl,by rw[cs,if_pos rfl];exact id⟩);rw[if_pos (by rw[cs,if_pos rfl];exact q1')] at hv
    have hK:K.length<=8000:=by
     have k3:=iv.k3 hp;have:=b2g x.A.length K (k3.1.imp (λh=>Nat.ne_of_lt h)) (λq hq=>by have:=(k3.2.1 q hq).1;omega);omega
    refine(c2f h n8 hp i hi hin q1 q0 hK a ha hx).mono ?_;rintro e w' ⟨rfl,h2,x2⟩;obtain⟨vk',role',h2⟩:=uH h2;exact⟨rfl,⟨_,_,_,_,_,_,_,_,_,_,_,_,_,_,_,_,_,_,_,_,_,_,h2,hv,by rw[b7b];exact hk⟩,x2⟩
   ·have wh:whB (x.c i)=true:=by simp [whB,q1,q0]
    have e3:dQ x={ x with K:=x.K-(1+(x.c i).F.length),A:=x.A.set i Cl0,I:=(i:Int)+1 }:=by
     unfold dQ;rw[if_neg he,ei,if_pos wh,hi]
    have cs:∀q,(dQ x).c q=if q=i then Cl0 else x.c q:=λq=>by
     rw[e3];exact Hp.c_set x i Cl0 hin q
    refine(b9q h s hp i hi hin wh iv.ho (by have:=iv.le;omega) a ha hx).mono ?_;rintro e w' ⟨rfl,h2,x2⟩;obtain⟨pa',pk',vf',F',role',h2,ho2,pm⟩:=uH h2;have hv:=b0u (z:=dQ x) iv hp (by rw[e3];exact hp) i hi hin (by rw[e3]) (by rw[e3];simp) (λq hq=>by rw[cs,if_neg hq]) ho2 (.inr pm);rw[if_neg (by rw[cs,if_pos rfl];simp [Cl0]),List.append_nil] at hv;exact⟨rfl,⟨_,_,_,_,_,_,_,_,_,_,_,_,_,_,_,_,_,_,_,_,_,_,h2,hv,by rw[b7b];exact hk⟩,x2⟩
theorem c6d[Inhabited uQ](h:SOq C B w b x)(hC:C<=1000000000)(s:Snd x)(hp:x.E=4)(a:World)(ha:a.heap.size<=B)(hx:Ext a w):
  Calls Tryz.prog 333 #[.agg #[.pointer (some ⟨b,0,none⟩)]] w λe w'=>e=.returned (zK (unit4 x).E b)/\Hid (SOq C B w' b (unit4 x))/\Ext a w':=by
 obtain⟨ar,kr,a4,n4,k4,a8,m8,k8,br,cB,cO,bn,pb,pa,pk,kn,hd,vf,F,vk,K,role,h,iv,hk⟩:=h;have lk:2*(unit4 x).M<=(kn:Int)/\(default:uQ).z bn=none:=by rw[uroom4];exact hk
 refine(d0a h iv hC s hp a ha hx).mono ?_;rintro e w' ⟨rfl,h2,x2⟩;obtain⟨pb',pa',pk',vf',F',vk',K',role',h2,i2⟩:=uH h2;exact⟨rfl,⟨_,_,_,_,_,_,_,_,_,_,_,_,_,_,_,_,_,_,_,_,_,_,h2,i2,lk⟩,x2⟩
theorem c6e[Inhabited uQ](h:SOq C B w b x)(s:Snd x)(hp:x.E=5)(a:World)(ha:a.heap.size<=B)(hx:Ext a w):
  Calls Tryz.prog 335 #[.agg #[.pointer (some ⟨b,0,none⟩)]] w λe w'=>e=.returned (zK (eH x).E b)/\Hid (SOq C B w' b (eH x))/\Ext a w':=by
 obtain⟨ar,kr,a4,n4,k4,a8,m8,k8,br,cB,cO,bn,pb,pa,pk,kn,hd,vf,F,vk,K,role,h,i,hk⟩:=h;have hh:=s.r1.I;have hs:=s.r1.sub;have n8:=s.ok.n8;have lk:2*(eH x).M<=(kn:Int)/\(default:uQ).z bn=none:=by rw[uroom5];exact hk
 by_cases he:x.I=x.A.length
 ·refine(d0b h hp he a ha hx).mono ?_;rintro e w' ⟨rfl,h2,x2⟩;exact⟨rfl,⟨_,_,_,_,_,_,_,_,_,_,_,_,_,_,_,_,_,_,_,_,_,_,h2,inv5 i hp n8,lk⟩,x2⟩
 ·have hin:x.I.toNat<x.A.length:=by omega
  by_cases hkl:x.sub.toNat<(x.c x.I.toNat).F.length
  ·have pf:=((s.r4.2 x.I.toNat hin).2 x.sub.toNat hkl).2 (λd=>by have:=d.1;omega);refine(c5t h hp x.I.toNat (by omega) hin x.sub.toNat (by omega) hkl s.r2 pf.1.1 pf.2.1 a ha hx).mono ?_;rintro e w' ⟨rfl,h2,x2⟩;exact⟨rfl,⟨_,_,_,_,_,_,_,_,_,_,_,_,_,_,_,_,_,_,_,_,_,_,h2,inv5 i hp n8,lk⟩,x2⟩
  ·refine(c5s h n8 hp x.I.toNat (by omega) hin x.sub.toNat (by omega) hkl a ha hx).mono ?_;rintro e w' ⟨rfl,h2,x2⟩;exact⟨rfl,⟨_,_,_,_,_,_,_,_,_,_,_,_,_,_,_,_,_,_,_,_,_,_,h2,inv5 i hp n8,lk⟩,x2⟩
theorem c6f[Inhabited uQ](h:SOq C B w b x)(hC:C<=1000000000)(s:Snd x)(hp:x.E=6)(a:World)(ha:a.heap.size<=B)(hx:Ext a w):
  Calls Tryz.prog 336 #[.agg #[.pointer (some ⟨b,0,none⟩)]] w λe w'=>e=.returned (zK (cN x).E b)/\Hid (SOq C B w' b (cN x))/\Ext a w':=by
 obtain⟨ar,kr,a4,n4,k4,a8,m8,k8,br,cB,cO,bn,pb,pa,pk,kn,hd,vf,F,vk,K,role,h,iv,hk⟩:=h;have hh:=s.r1.I;have n8:=s.ok.n8;by_cases he:x.I=0
 ·refine(d0d h hp he s.r1.Q a ha hx).mono ?_;rintro e w' ⟨rfl,h2,x2⟩;have e6:(cN x).E=0/\(cN x).A=x.A:=by unfold cN;rw[if_pos he];exact⟨rfl,rfl⟩
  exact⟨rfl,⟨_,_,_,_,_,_,_,_,_,_,_,_,_,_,_,_,_,_,_,_,_,_,h2,c9n iv hp e6.1 e6.2,by rw[d0e];exact hk⟩,x2⟩
 ·obtain⟨i,hi⟩:∃i:Nat,x.I=(i:Int)+1:=⟨(x.I-1).toNat,by omega⟩;have hin:i<x.A.length:=by omega
  have e6:cN x=zU (dH x i) i:=by unfold cN;rw[if_neg (by omega),show(x.I-1).toNat=i by omega]
  have shl:(dH x i).A.length=x.A.length:=by unfold dH;split <;> simp
  have shc:∀q,(dH x i).c q=if q=i/\(x.c i).st=2 then Cl0 else x.c q:=λq=>by
   by_cases e2:(x.c i).st=2
   ·have:(dH x i).c q=({ x with A:=x.A.set i Cl0 }:Hp).c q:=by unfold dH;rw[if_pos e2];rfl
    rw[this,Hp.c_set x i Cl0 hin q];by_cases e:q=i
    ·rw[if_pos e,if_pos ⟨e,e2⟩]
    ·rw[if_neg e,if_neg (λh=>e h.1)]
   ·have:(dH x i).c q=x.c q:=by unfold dH;rw[if_neg e2];rfl
    rw[this,if_neg (λh=>e2 h.2)]
  have d1:(cN x).E=6/\(cN x).I=(i:Int)/\(cN x).A.length<=x.A.length/\∀q,q<(cN x).A.length->(cN x).c q=(dH x i).c q:=by
   rw[e6];unfold zU
   split
   ·refine⟨hp,rfl,by simp [shl];omega,λq hq=>?_⟩;simp at hq;simp only [Hp.c,List.getD_eq_getElem?_getD,List.getElem?_take];rw[if_pos (by omega)]
   ·exact⟨hp,rfl,by rw[shl];omega,λq _=>rfl⟩
  refine(c5z h n8 hp i hi hin (by have:=s.r1.A;omega) iv.ho (by have:=iv.le;omega) a ha hx).mono ?_;rintro e w' ⟨rfl,h2,x2⟩;obtain⟨pa',pk',vf',F',role',h2,ho2,pm⟩:=uH h2
  have hv:=c5h (z:=cN x) iv hp d1.1 i hi d1.2.1 d1.2.2.1 (λq hq hne=>by rw[d1.2.2.2 q hq,shc,if_neg (λh=>hne h.1)]) ho2 (by
   rcases pm with⟨_,p⟩ | ⟨n2,p⟩
   ·exact .inr p
   ·exact .inl ⟨p,λhq=>by rw[d1.2.2.2 i hq,shc,if_neg (λh=>n2 h.2)];exact id⟩)
  exact⟨rfl,⟨_,_,_,_,_,_,_,_,_,_,_,_,_,_,_,_,_,_,_,_,_,_,h2,hv,by rw[d0e];exact hk⟩,x2⟩
theorem SOq.box[Inhabited uQ](h:SOq C B w b x):w.cell? ⟨b,5,none⟩=some (iv x.E)/\w.frozen? ⟨b,5,none⟩=false/\B<=b/\b<w.heap.size:=by
 obtain⟨ar,kr,a4,n4,k4,a8,m8,k8,br,cB,cO,bn,pb,pa,pk,kn,hd,vf,F,vk,K,role,h,i⟩:=h;exact⟨h.sb.bx.2.2.2.2.2.1,h.sb.nb.2 5,h.sb.lo.1,h.sb.nb.1⟩
def a5v : String := "loop.example/spool/impl.unit"
theorem c6m(b:Nat)(W:World){s:String}(hs:s=a5v):(method 443 233 (.agg #[.pointer (some ⟨b,0,none⟩)]) s).run Tryz.prog W=.ok (328,.agg #[.pointer (some ⟨b,0,none⟩)]) W:=by subst hs;kernel_rfl
theorem b5u(b:Nat)(W:World):(binOp .neq 182 (.iface 233 (.agg #[.pointer (some ⟨b,0,none⟩)])) .nilIface).run Tryz.prog W=.ok (.bool true) W:=by kernel_rfl
theorem d0m(b:Nat)(W:World){s:String}(hs:s=a5v):(method 443 234 (.agg #[.pointer (some ⟨b,0,none⟩)]) s).run Tryz.prog W=.ok (329,.agg #[.pointer (some ⟨b,0,none⟩)]) W:=by subst hs;kernel_rfl
theorem b9x(b:Nat)(W:World):(binOp .neq 182 (.iface 234 (.agg #[.pointer (some ⟨b,0,none⟩)])) .nilIface).run Tryz.prog W=.ok (.bool true) W:=by kernel_rfl
theorem c6n(b:Nat)(W:World){s:String}(hs:s=a5v):(method 443 235 (.agg #[.pointer (some ⟨b,0,none⟩)]) s).run Tryz.prog W=.ok (331,.agg #[.pointer (some ⟨b,0,none⟩)]) W:=by subst hs;kernel_rfl
theorem b5v(b:Nat)(W:World):(binOp .neq 182 (.iface 235 (.agg #[.pointer (some ⟨b,0,none⟩)])) .nilIface).run Tryz.prog W=.ok (.bool true) W:=by kernel_rfl
theorem d0n(b:Nat)(W:World){s:String}(hs:s=a5v):(method 443 236 (.agg #[.pointer (some ⟨b,0,none⟩)]) s).run Tryz.prog W=.ok (333,.agg #[.pointer (some ⟨b,0,none⟩)]) W:=by subst hs;kernel_rfl
theorem b9y(b:Nat)(W:World):(binOp .neq 182 (.iface 236 (.agg #[.pointer (some ⟨b,0,none⟩)])) .nilIface).run Tryz.prog W=.ok (.bool true) W:=by kernel_rfl
theorem d0o(b:Nat)(W:World){s:String}(hs:s=a5v):(method 443 237 (.agg #[.pointer (some ⟨b,0,none⟩)]) s).run Tryz.prog W=.ok (335,.agg #[.pointer (some ⟨b,0,none⟩)]) W:=by subst hs;kernel_rfl
theorem b9z(b:Nat)(W:World):(binOp .neq 182 (.iface 237 (.agg #[.pointer (some ⟨b,0,none⟩)])) .nilIface).run Tryz.prog W=.ok (.bool true) W:=by kernel_rfl
theorem d0p(b:Nat)(W:World){s:String}(hs:s=a5v):(method 443 238 (.agg #[.pointer (some ⟨b,0,none⟩)]) s).run Tryz.prog W=.ok (336,.agg #[.pointer (some ⟨b,0,none⟩)]) W:=by subst hs;kernel_rfl
theorem c0a(b:Nat)(W:World):(binOp .neq 182 (.iface 238 (.agg #[.pointer (some ⟨b,0,none⟩)])) .nilIface).run Tryz.prog W=.ok (.bool true) W:=by kernel_rfl
theorem d0q[Inhabited uQ](n:Nat)(h:SOq C B w b x)(hC:C<=1000000000)(s:Snd x)(a:World)(ha:a.heap.size<=B)(hx:Ext a w):
  Calls Tryz.prog 144 #[.pointer (some ⟨b,0,none⟩),.int .i64 n] w λe w'=>∃k:Nat,e=.returned (.int .i64 k)/\Hid (a5i x n k)/\Hid (SOq C B w' b (itU k x))/\Ext a w':=by
 have HS:=uU h;have S:=uU s;have NW:=uU (b1u x.E b w h.box.1 s.r1.E);have XS:=uU hx;clear h s;go_enter Tryz.func144,Tryz.ntmps144;go_wp2_with fail;refine NW.mono ?_;rintro e w1 ⟨rfl,hw1⟩;subst hw1;go_wp2_with fail
 go_loopg [5,6] (14000000) (λgk u now wr=>∃k:Nat,u=.int .i64 k/\now=zK (itU k x).E b/\Hid (k<=n)/\Hid (yZ x k)/\Hid (mu (itU k x)<=gk)/\Hid (SOq C B wr b (itU k x))/\Hid (Ext a wr))
 case atStart=>exact⟨0,rfl,rfl,Nat.zero_le _,yZ.zero _,S.mu_le,HS,XS⟩
 case round=>
  clear HS XS NW;obtain⟨k,rfl,rfl,hkn,hr,hm,hG,hxr⟩:=hrel;have kl:=hr.le S;have SK:=uU (S.itU k);by_cases p0:(itU k x).E=0
  ·have EP:=uU p0;have e0:zK (itU k x).E b=.nilIface:=by rw[p0];rfl
   have q0:∀W,(binOp .neq 182 .nilIface .nilIface).run Tryz.prog W=.ok (.bool false) W:=λ_=>by kernel_rfl
   rw[e0];clear p0 e0;go_wp2_with fail;go_ret;exact⟨k,rfl,⟨hr,hkn,.inr EP⟩,hG,hxr⟩
  ·by_cases hlt:k<n
   ·have h1:(k:Int)<(n:Int):=by omega
    have R3:=uU (hr.succ p0);have M3:=uU (show mu (itU (k+1) x)<mu (itU k x) from SK.less p0);have wk:wrap64 ((k:Int)+1)=(k:Int)+1:=by unfold wrap64;omega
    have HP:=uU SK.r1.E;have P0:=uU p0;have HK:=uU (show k+1<=n by omega);clear p0;by_cases p1:(itU k x).E=1
    ·have e1:zK (itU k x).E b=.iface 233 (.agg #[.pointer (some ⟨b,0,none⟩)]):=by rw[p1];rfl
     have q1:∀W,(binOp .neq 182 (.iface 233 (.agg #[.pointer (some ⟨b,0,none⟩)])) .nilIface).run Tryz.prog W=.ok (.bool true) W:=b5u b;have EU:=uU (show eZ (itU k x)=itU (k+1) x by show eZ (itU k x)=dD (itU k x);unfold dD;simp [p1]);have P1:=uU p1;rw[e1];clear p1 e1;go_wp2_with fail;rw[c6m b _ (show _=a5v by kernel_rfl)];go_wp2_with fail;refine(c6a hG SK P1 a ha hxr).mono ?_;rintro e w3 ⟨rfl,h3,x3⟩;rw[uH EU] at h3 ⊢;have X3:=uU x3;clear x3;go_wp2_with fail
     go_roundg (mu (itU (k+1) x))
     case measure=>have:=uH M3;have:=uH hm;omega
     case rel=>exact⟨k+1,by go_num,rfl,HK,R3,Nat.le_refl _,h3,X3⟩
    ·skip
     by_cases p2:(itU k x).E=2
     ·have e1:zK (itU k x).E b=.iface 234 (.agg #[.pointer (some ⟨b,0,none⟩)]):=by rw[p2];rfl
      have q1:∀W,(binOp .neq 182 (.iface 234 (.agg #[.pointer (some ⟨b,0,none⟩)])) .nilIface).run Tryz.prog W=.ok (.bool true) W:=b9x b;have EU:=uU (show dY (itU k x)=itU (k+1) x by show dY (itU k x)=dD (itU k x);unfold dD;simp [p2]);have P1:=uU p2;rw[e1];clear p2 e1;go_wp2_with fail;rw[d0m b _ (show _=a5v by kernel_rfl)];go_wp2_with fail;refine(c6b hG SK P1 a ha hxr).mono ?_;rintro e w3 ⟨rfl,h3,x3⟩;rw[uH EU] at h3 ⊢;have X3:=uU x3;clear x3;go_wp2_with fail
      go_roundg (mu (itU (k+1) x))
      case measure=>have:=uH M3;have:=uH hm;omega
      case rel=>exact⟨k+1,by go_num,rfl,HK,R3,Nat.le_refl _,h3,X3⟩
     ·skip
      by_cases p3:(itU k x).E=3
      ·have e1:zK (itU k x).E b=.iface 235 (.agg #[.pointer (some ⟨b,0,none⟩)]):=by rw[p3];rfl
       have q1:∀W,(binOp .neq 182 (.iface 235 (.agg #[.pointer (some ⟨b,0,none⟩)])) .nilIface).run Tryz.prog W=.ok (.bool true) W:=b5v b;have EU:=uU (show dQ (itU k x)=itU (k+1) x by show dQ (itU k x)=dD (itU k x);unfold dD;simp [p3]);have P1:=uU p3;rw[e1];clear p3 e1;go_wp2_with fail;rw[c6n b _ (show _=a5v by kernel_rfl)];go_wp2_with fail;refine(c6c hG hC SK P1 a ha hxr).mono ?_;rintro e w3 ⟨rfl,h3,x3⟩;rw[uH EU] at h3 ⊢;have X3:=uU x3;clear x3;go_wp2_with fail
       go_roundg (mu (itU (k+1) x))
       case measure=>have:=uH M3;have:=uH hm;omega
       case rel=>exact⟨k+1,by go_num,rfl,HK,R3,Nat.le_refl _,h3,X3⟩
      ·skip
       by_cases p4:(itU k x).E=4
       ·have e1:zK (itU k x).E b=.iface 236 (.agg #[.pointer (some ⟨b,0,none⟩)]):=by rw[p4];rfl
        have q1:∀W,(binOp .neq 182 (.iface 236 (.agg #[.pointer (some ⟨b,0,none⟩)])) .nilIface).run Tryz.prog W=.ok (.bool true) W:=b9y b;have EU:=uU (show unit4 (itU k x)=itU (k+1) x by show unit4 (itU k x)=dD (itU k x);unfold dD;simp [p4]);have P1:=uU p4;rw[e1];clear p4 e1;go_wp2_with fail;rw[d0n b _ (show _=a5v by kernel_rfl)];go_wp2_with fail;refine(c6d hG hC SK P1 a ha hxr).mono ?_;rintro e w3 ⟨rfl,h3,x3⟩;rw[uH EU] at h3 ⊢;have X3:=uU x3;clear x3;go_wp2_with fail
        go_roundg (mu (itU (k+1) x))
        case measure=>have:=uH M3;have:=uH hm;omega
        case rel=>exact⟨k+1,by go_num,rfl,HK,R3,Nat.le_refl _,h3,X3⟩
       ·skip
        by_cases p5:(itU k x).E=5
        ·have e1:zK (itU k x).E b=.iface 237 (.agg #[.pointer (some ⟨b,0,none⟩)]):=by rw[p5];rfl
         have q1:∀W,(binOp .neq 182 (.iface 237 (.agg #[.pointer (some ⟨b,0,none⟩)])) .nilIface).run Tryz.prog W=.ok (.bool true) W:=b9z b;have EU:=uU (show eH (itU k x)=itU (k+1) x by show eH (itU k x)=dD (itU k x);unfold dD;simp [p5]);have P1:=uU p5;rw[e1];clear p5 e1;go_wp2_with fail;rw[d0o b _ (show _=a5v by kernel_rfl)];go_wp2_with fail;refine(c6e hG SK P1 a ha hxr).mono ?_;rintro e w3 ⟨rfl,h3,x3⟩;rw[uH EU] at h3 ⊢;have X3:=uU x3;clear x3;go_wp2_with fail
         go_roundg (mu (itU (k+1) x))
         case measure=>have:=uH M3;have:=uH hm;omega
         case rel=>exact⟨k+1,by go_num,rfl,HK,R3,Nat.le_refl _,h3,X3⟩
        ·skip
         have p6:(itU k x).E=6:=by have:=uH HP;have:=uH P0;omega
         have e1:zK (itU k x).E b=.iface 238 (.agg #[.pointer (some ⟨b,0,none⟩)]):=by rw[p6];rfl
         have q1:∀W,(binOp .neq 182 (.iface 238 (.agg #[.pointer (some ⟨b,0,none⟩)])) .nilIface).run Tryz.prog W=.ok (.bool true) W:=c0a b;have EU:=uU (show cN (itU k x)=itU (k+1) x by show cN (itU k x)=dD (itU k x);unfold dD;simp [p6]);have P1:=uU p6;rw[e1];clear p6 e1;go_wp2_with fail;rw[d0p b _ (show _=a5v by kernel_rfl)];go_wp2_with fail;refine(c6f hG hC SK P1 a ha hxr).mono ?_;rintro e w3 ⟨rfl,h3,x3⟩;rw[uH EU] at h3 ⊢;have X3:=uU x3;clear x3;go_wp2_with fail
         go_roundg (mu (itU (k+1) x))
         case measure=>have:=uH M3;have:=uH hm;omega
         case rel=>exact⟨k+1,by go_num,rfl,HK,R3,Nat.le_refl _,h3,X3⟩
   ·have h1:¬(k:Int)<(n:Int):=by omega
    have hkn2:=uU (show k=n by have:=uH hkn;omega)
    have Q:=uU (show ∃T,zK (itU k x).E b=.iface T (.agg #[.pointer (some ⟨b,0,none⟩)])/\∀W,(binOp .neq 182 (.iface T (.agg #[.pointer (some ⟨b,0,none⟩)])) .nilIface).run Tryz.prog W=.ok (.bool true) W by
     have hp:=SK.r1.E;have h:(itU k x).E=1\/(itU k x).E=2\/(itU k x).E=3\/(itU k x).E=4\/(itU k x).E=5\/(itU k x).E=6:=by omega
     rcases h with e | e | e | e | e | e
     ·exact⟨_,by rw[e];rfl,b5u b⟩
     ·exact⟨_,by rw[e];rfl,b9x b⟩
     ·exact⟨_,by rw[e];rfl,b5v b⟩
     ·exact⟨_,by rw[e];rfl,b9y b⟩
     ·exact⟨_,by rw[e];rfl,b9z b⟩
     ·exact⟨_,by rw[e];rfl,c0a b⟩)
    obtain⟨T,e1,q1⟩:=Q;rw[e1];clear p0 e1;go_wp2_with fail;go_ret;exact⟨k,rfl,⟨hr,hkn,.inl hkn2⟩,hG,hxr⟩
theorem d0r{w:World}{p:Addr}{v:Value}(h:w.cell? p=some v):w.setCell p v=w:=by
 have key:(w.setCell p v).heap=w.heap:=by
  unfold World.cell? at h;unfold World.setCell;apply Array.ext_getElem?;intro i;rw[Array.getElem?_modify];by_cases e:p.block=i
  ·subst e;rw[if_pos rfl];cases hh:w.heap[p.block]? with
   | none=>rfl
   | some o=>
    rw[hh] at h;cases o with
    | cells c t f=>
     simp only at h;by_cases hs:p.spot.isSome=true
     ·simp [hs] at h
     ·simp only [hs] at h;simp only [Option.map_some,hs]
      congr 1
      have hc:c.setIfInBounds p.off v=c:=by
       apply Array.ext_getElem?;intro k;rw[Array.getElem?_setIfInBounds];by_cases e2:p.off=k
       ·subst e2;rw[if_pos rfl];have:=(Array.getElem?_eq_some_iff.1 h).1;rw[if_pos this];exact h.symm
       ·rw[if_neg e2]
      simp [hc]
    | _=>simp at h
  ·rw[if_neg e]
 unfold World.setCell at key ⊢;simp only at key;rw[key]
theorem c6o:(Tryz.prog.info? 124).map (λi=>(i.zero,i.size,i.bytes))=some (some (.agg #[.int .i64 0,.pointer none]),2,16):=by kernel_rfl
theorem c6p(base:Option Addr)(l n:Nat)(w:World)(hn:n=0):
  Calls Tryz.prog 140 #[.slice base l l,.int .i64 n] w λe w'=>e=.returned (.slice base l l)/\w'=w:=by
 subst hn;have h2:wrap64 ((l:Int)-(l:Int))=0:=by unfold wrap64;omega
 go_enter Tryz.func140,Tryz.ntmps140
 go_wp2
 go_ret;exact⟨rfl,rfl⟩
def d0s(w:World)(l n:Nat)(cs:List Value)(e:Ending)(w':World):Prop:=∃k m,e=.returned (.slice (some ⟨w.heap.size,0,none⟩) l k)/\l+n<=k/\m.size=(k-l)*2/\w'=w.drew.alloc (.cells (cs.toArray++m) 124)
theorem d0t(bn l n:Nat)(cs:List Value)(w:World)(hl:l+n<=8000)(hn:0<n)(hcl:cs.length=l*2)(hcs:∀j v,cs[j]?=some v->w.cell? ⟨bn,j,none⟩=some v):
  Calls Tryz.prog 140 #[.slice (some ⟨bn,0,none⟩) l l,.int .i64 n] w λe w'=>d0s w l n cs e w':=by
 obtain⟨i0,hi0,hz0,hz1,hz2⟩:∃i,Tryz.prog.info? 124=some i/\i.zero=some (.agg #[.int .i64 0,.pointer none])/\i.size=2/\i.bytes=16:=by
  have:=c6o;cases h:Tryz.prog.info? 124 with
  | none=>rw[h] at this;simp at this
  | some i=>rw[h] at this;simp at this;exact⟨i,rfl,this.1,this.2.1,this.2.2⟩
 have h2:wrap64 ((l:Int)-(l:Int))=0:=by unfold wrap64;omega
 have hold:(Builtin.firstCells i0.size l (.slice (some ⟨bn,0,none⟩) l l)).run Tryz.prog w.drew=.ok cs.toArray w.drew:=run_firstCells_some w.drew i0.size l ⟨bn,0,none⟩ l l cs (by rw[hcl,hz1]) (λj v hj=>by
  have:(⟨bn,0,none⟩:Addr).add j=⟨bn,j,none⟩:=by unfold Addr.add;split <;> simp_all
  rw[this];exact hcs j v hj)
 have hrz:∀ty,(Builtin.append_ #[117,3] ty #[.slice (some ⟨bn,0,none⟩) l l,.int .i64 (n:Int)]).run Tryz.prog w=.ok (.slice (some ⟨w.heap.size,0,none⟩) (l+n) (grownCap w (l+n) l 124)) (w.drew.alloc (.cells (cs.toArray++Builtin.zeroCells (Value.agg #[.int .i64 0,.pointer none]).cells n++Builtin.zeroCells (Value.agg #[.int .i64 0,.pointer none]).cells (grownCap w (l+n) l 124-(l+n))) 124)):=λty=>
  Go.Lib.run_append_grow_zeros w 117 3 ty 124 i0 _ .i64 .i64 Tryz.underlying117 Tryz.underlying3 hi0 hz0 (some ⟨bn,0,none⟩) l l cs hold n hn (by omega) (by omega) (by omega) (by rw[hz2];omega) (growslice_fits (by omega) (by rw[hz2];omega))
 have hGn:l+n<=grownCap w (l+n) l 124:=grownCap_ge w _ _ _;obtain⟨G,hG⟩:∃G,G=grownCap w (l+n) l 124:=⟨_,rfl⟩;rw[<-hG] at hrz hGn
 have hG63:G<=9223372036854775807:=by
  have:=grownCap_le_maxLen w (l+n) l 124 (by unfold maxLen;omega);rw[<-hG] at this;unfold maxLen at this;omega
 have n0:¬((n:Int)<0):=by omega
 have n1:wrap64 ((n:Int)-0)=n:=by unfold wrap64;omega
 have n2:(n:Int) > 0:=by omega
 have HGN:=uU hGn;clear hold hG hcs hcl;go_enter Tryz.func140,Tryz.ntmps140;go_wp2_with (at_builtin;refine Go.Lib.wpList_append_run _ rfl _ _ _ _ rfl _ _ rfl rfl _ _ (hrz _) ?_);go_ret;exact⟨G,Builtin.zeroCells (Value.agg #[.int .i64 0,.pointer none]).cells n++Builtin.zeroCells (Value.agg #[.int .i64 0,.pointer none]).cells (G-(l+n)),rfl,HGN,by have:=uH HGN;simp only [Array.size_append,Go.size_zeroCells];show n*2+(G-(l+n))*2=_;omega,rfl⟩
def tE(cB cO:Nat->Nat)(n:Nat):List Value:=(List.range (n*2)).map (λj=>if j % 2=0 then iv (j / 2:Nat) else .pointer (some ⟨cB (j / 2),cO (j / 2),none⟩))
theorem c0b(cB cO:Nat->Nat)(n j:Nat)(h:j<n*2):(tE cB cO n)[j]?=some (if j % 2=0 then iv (j / 2:Nat) else .pointer (some ⟨cB (j / 2),cO (j / 2),none⟩)):=by
 unfold tE;rw[List.getElem?_map,List.getElem?_range h];rfl
theorem SAt.regrow[Inhabited uQ](h:SAt B w b x ar kr v4 v8 br cB cO bn pb pa pk kn hd vf F vk [] role)(hg:x.D=[])(hB:B<=w.heap.size)(k:Nat)(m:Array Value)(T:TypeId)(hmk:x.A.length<=k/\m.size=(k-x.A.length)*2):
  SAt B ((w.drew.alloc (.cells ((tE cB cO x.A.length).toArray++m) T)).setCell ⟨b,13,none⟩ (.slice (some ⟨w.heap.size,0,none⟩) x.A.length k)) b x ar kr v4 v8 br cB cO w.heap.size pb pa pk k hd vf F vk [] (λq=>if q=w.heap.size then 1 else role q):=by
 have hb:=h.sb.nb.1;have nb:b≠w.heap.size:=by omega
 have far1:∀q,q<w.heap.size->(w.drew.alloc (.cells ((tE cB cO x.A.length).toArray++m) T)).heap[q]?=w.heap[q]?:=λq hq=>Below.heap_alloc w.drew _ q hq
 have far:∀q,q<w.heap.size->q≠b->((w.drew.alloc (.cells ((tE cB cO x.A.length).toArray++m) T)).setCell ⟨b,13,none⟩ (.slice (some ⟨w.heap.size,0,none⟩) x.A.length k)).heap[q]?=w.heap[q]?:=λq hq hn=>(Below.heap_setCell _ _ _ _ hn).trans (far1 q hq)
 have cb:∀o,o≠13->((w.drew.alloc (.cells ((tE cB cO x.A.length).toArray++m) T)).setCell ⟨b,13,none⟩ (.slice (some ⟨w.heap.size,0,none⟩) x.A.length k)).cell? ⟨b,o,none⟩=w.cell? ⟨b,o,none⟩:=λo ho=>(uC _ (.inr (λe=>ho e.symm))).trans (World.cell?_of_block (a:=⟨b,o,none⟩) (far1 b hb))
 have hsz:w.heap.size+1=((w.drew.alloc (.cells ((tE cB cO x.A.length).toArray++m) T)).setCell ⟨b,13,none⟩ (.slice (some ⟨w.heap.size,0,none⟩) x.A.length k)).heap.size:=by simp [World.setCell]
 have hnew:((w.drew.alloc (.cells ((tE cB cO x.A.length).toArray++m) T)).setCell ⟨b,13,none⟩ (.slice (some ⟨w.heap.size,0,none⟩) x.A.length k)).heap[w.heap.size]?=some (.cells ((tE cB cO x.A.length).toArray++m) T):=(Below.heap_setCell _ _ _ _ (λe=>nb e.symm)).trans (heap_alloc_new w.drew _)
 have cn:∀j,j<x.A.length*2->((w.drew.alloc (.cells ((tE cB cO x.A.length).toArray++m) T)).setCell ⟨b,13,none⟩ (.slice (some ⟨w.heap.size,0,none⟩) x.A.length k)).cell? ⟨w.heap.size,j,none⟩=some (if j % 2=0 then iv (j / 2:Nat) else .pointer (some ⟨cB (j / 2),cO (j / 2),none⟩)):=λj hj=>by
  rw[cell_of_row _ w.heap.size j _ _ (0,0) hnew,<-c0b cB cO x.A.length j hj];have hl:j<(tE cB cO x.A.length).toArray.size:=by simp [tE];exact hj
  rw[Array.getElem?_append_left hl];simp
 have rb:∀q,role q≠0->q≠b:=λq hq e=>hq (by rw[e];exact h.sp.b)
 have nfb:Nf1 b ((w.drew.alloc (.cells ((tE cB cO x.A.length).toArray++m) T)).setCell ⟨b,13,none⟩ (.slice (some ⟨w.heap.size,0,none⟩) x.A.length k)):=(uV h.sb.nb (far1 b hb) (by simp)).set _ _;have c13:(w.drew.alloc (.cells ((tE cB cO x.A.length).toArray++m) T)).cell? ⟨b,13,none⟩=some (.slice (some ⟨bn,0,none⟩) x.A.length kn):=(World.cell?_of_block (a:=⟨b,13,none⟩) (far1 b hb)).trans h.sb.n13;refine⟨⟨h.sb.bx.of λo ho=>cb o (by omega),h.sb.ha,World.cell?_setCell_same _ _ _ c13,λi hi=>⟨?_,?_⟩,⟨(cb 14 (by omega)).trans h.sb.fr.hd,nfb.2 14,uN h.sb.fr.own (λq hq=>far q (h.sb.fr.own.lt q hq).2 (rb q (by rw[h.sp.f q hq];omega))),h.sb.fr.apart⟩,?_,(cb 4017 (by omega)).trans h.sb.k0,?_,nfb,⟨h.sb.lo.1,hB,by omega,?_⟩⟩,h.rw.same (by omega) (λhl=>far br (h.rw.nr hl).1.1 (rb br (by rw[h.sp.r hl];omega))) (λq hq=>far (cB q) (h.rw.nc q hq).1.1 (rb (cB q) (by rw[h.sp.c q hq];omega))) (λq hq hl=>far (pb q) (h.rw.pl q hq hl).2.1.1 (rb (pb q) (by rw[h.sp.p q hq hl];omega))),?_,h.pr.of (λq hq h1=>far q hq (rb q (by rw[h1];omega))) (λq hq h1=>by(try dsimp only);rw[if_neg (by omega)];exact h1)⟩
 ·have:=cn (i*2) (by omega);rw[if_pos (by omega),show i*2 / 2=i by omega] at this;exact this
 ·have:=cn (i*2+1) (by omega);rw[if_neg (by omega),show(i*2+1) / 2=i by omega] at this;exact this
 ·have r:=h.sb.rg;rw[hg] at r;rw[hg];exact⟨r.h0,r.hl,(cb 4015 (by omega)).trans r.r0,(cb 4016 (by omega)).trans r.r1,λi hi=>by simp at hi,λj hj=>let ⟨v,q⟩:=r.ro j hj;⟨v,(cb _ (by omega)).trans q⟩⟩
 ·have:=h.sb.kp;exact uN (by simpa using this) (λq hq=>far q (h.sb.kp.lt q hq).2 (rb q (by rw[h.sp.k q hq];omega)))
 ·intro j hj;have hl:j<((tE cB cO x.A.length).toArray++m).size:=by simp [tE];omega
  refine⟨⟨((tE cB cO x.A.length).toArray++m)[j],?_⟩,?_⟩
  ·rw[cell_of_row _ w.heap.size j _ _ (0,0) hnew];exact Array.getElem?_eq_getElem hl
  ·rw[World.frozen?_setCell];simp [go_sem]
 ·have ne:∀q,q<w.heap.size->¬q=w.heap.size:=λq hq=>by omega
  refine⟨?_,if_pos rfl,λhl=>?_,λq hq=>?_,λq hq=>?_,λq hq=>?_,λq hq hl=>?_⟩
  ·rw[if_neg nb];exact h.sp.b
  ·rw[if_neg (ne br (h.rw.nr hl).1.1)];exact h.sp.r hl
  ·rw[if_neg (ne (cB q) (h.rw.nc q hq).1.1)];exact h.sp.c q hq
  ·rw[if_neg (ne q (h.sb.fr.own.lt q hq).2)];exact h.sp.f q hq
  ·rw[if_neg (ne q (h.sb.kp.lt q hq).2)];exact h.sp.k q hq
  ·rw[if_neg (ne (pb q) (h.rw.pl q hq hl).2.1.1)];exact h.sp.p q hq hl
theorem d0u[Inhabited uQ](h:SAt B w b x ar kr v4 v8 br cB cO bn pb pa pk x.A.length hd vf F vk [] role)(hg:x.D=[])(hB:B<=w.heap.size)(m:Nat)(hm:x.A.length+m<=8000):
  Calls Tryz.prog 140 #[.slice (some ⟨bn,0,none⟩) x.A.length x.A.length,.int .i64 m] w λe w'=>∃bn' kn',e=.returned (.slice (some ⟨bn',0,none⟩) x.A.length kn')/\Hid (∃role',SAt B (w'.setCell ⟨b,13,none⟩ (.slice (some ⟨bn',0,none⟩) x.A.length kn')) b x ar kr v4 v8 br cB cO bn' pb pa pk kn' hd vf F vk [] role')/\Hid (w'.cell? ⟨b,13,none⟩=some (.slice (some ⟨bn,0,none⟩) x.A.length x.A.length)/\w'.frozen? ⟨b,13,none⟩=false/\Ext w w'/\x.A.length+m<=kn'):=by
 rcases Nat.eq_zero_or_pos m with e | e
 ·refine(c6p (some ⟨bn,0,none⟩) x.A.length m w e).mono ?_;rintro e w' ⟨rfl,rfl⟩;refine⟨bn,x.A.length,rfl,⟨role,?_⟩,h.sb.n13,h.sb.nb.2 13,Ext.refl _,by omega⟩;rw[d0r h.sb.n13];exact h
 ·refine(d0t bn x.A.length m (tE cB cO x.A.length) w hm e (by simp [tE]) (λj v hj=>?_)).mono ?_
  ·have hj2:j<x.A.length*2:=by have:=(List.getElem?_eq_some_iff.1 hj).1;simpa [tE] using this
   rw[c0b cB cO x.A.length j hj2] at hj;rw[<-hj];obtain⟨p0,p1⟩:=h.sb.nd (j / 2) (by omega);by_cases ev:j % 2=0
   ·rw[if_pos ev];rw[show j / 2*2=j by omega] at p0;exact p0
   ·rw[if_neg ev];rw[show j / 2*2+1=j by omega] at p1;exact p1
  ·rintro e w' ⟨k,mm,rfl,hk,hmm,rfl⟩;have xw:Ext w (w.drew.alloc (.cells ((tE cB cO x.A.length).toArray++mm) 124)):=(Ext.refl w).drew.alloc _;exact⟨w.heap.size,k,rfl,⟨_,h.regrow hg hB k mm _ ⟨by omega,hmm⟩⟩,xw.keep h.sb.n13,((cD xw).2 b 13 h.sb.nb.1).trans (h.sb.nb.2 13),xw,hk⟩
end Go.Proofs.YtddkhnclmeikfaaGreat
