import Derived.Test.YtddkhnclmeikfaaGreatWy
import Derived.Test.YtddkhnclmeikfaaGreatSh4
import Derived.Test.YtddkhnclmeikfaaGreatSv
set_option maxRecDepth 100000
set_option maxHeartbeats 4000000
namespace Go.Proofs.YtddkhnclmeikfaaGreat
open Go.RowKit
attribute [local go_sem ↓] Go.wp_at_zero Go.wp_at_succ
variable{w w':World}{ar ac ag:Option Addr}{kr kc kg:Nat}
theorem HV.ext{x:Hp}(h:HV w x ar kr ac kc ag kg)(e:Ext w w'):HV w' x ar kr ac kc ag kg:=⟨h.1.ext e,h.2.extS h.1.2.1 e⟩
theorem HA.hv{B U:Nat}{y:Hp}(h:HA B U w y ar kr ac kc ag kg):HV w y ar kr ac kc ag kg:=by
 refine⟨h.rd,?_⟩;rcases h with⟨rfl,rfl,rfl,rfl,rfl,rfl,rfl⟩ | ⟨br,bc,bg,pb,pa,pk,rfl,rfl,rfl,h⟩
 ·intro i hi;simp [Hp0] at hi
 ·intro i hi b2 oc ad l c ha hc;simp only [Option.some.injEq,Addr.mk.injEq] at ha;obtain⟨rfl,rfl,_⟩:=ha;rw[Nat.zero_add,h.p7 i hi] at hc;simp only [Option.some.injEq,Value.slice.injEq] at hc;obtain⟨_,rfl,rfl⟩:=hc;exact .inl (h.k i hi)
theorem ByAt.ext{u:Value}(h:ByAt w u)(e:Ext w w'):ByAt w' u:=by
 obtain⟨ad,n,k,rfl,hn,hx⟩:=h;exact⟨ad,n,k,rfl,hn,λi hi=>let ⟨b,o,z,e1,c,r⟩:=hx i hi;⟨b,o,z,e1,e.keep c,r⟩⟩
theorem c8o(y:Hp)(k:Nat)(vr vc vg:Value)(W:World):(Instr.field 56 (b3f y k vr vc vg) 0).run Tryz.prog W=.ok (y.v vr vc vg) W:=by kernel_rfl
theorem c4z(y:Hp)(vr vc vg:Value)(W:World):(Instr.field 34 (y.v vr vc vg) 5).run Tryz.prog W=.ok (iv y.phase) W:=by kernel_rfl
theorem b8o(w:World)(u v:Value)(hu:ByAt w u)(hv:ByAt w v):
  Calls Tryz.prog 5 #[u,v] w λe w'=>e=.returned (.bool true)/\Ext w w':=by
 have QG:=uU (c4q w u hu);have BV:=uU hv;obtain⟨au,nu,ku,rfl,hnu,_⟩:=hu;obtain⟨av,nv,kv,rfl,hnv,_⟩:=hv;go_enter Tryz.func5,Tryz.ntmps5;go_wp2_with fail;refine QG.mono ?_;rintro e w1 ⟨x,ar0,kr0,ac0,kc0,ag0,kg0,he,S,V1,x1⟩;have e2:=uH he;subst e2
 go_upto_region 4 with(fail)
 obtain⟨W1,hW1⟩:∃W,W=w1.alloc (.cells #[iv x.room,iv x.used,iv x.born,.slice ar0 x.regs.length kr0,.slice ac0 x.cells.length kc0,iv x.phase,iv x.hand,iv x.sub,.slice ag0 x.gray.length kg0,iv x.per,iv x.start,iv x.rounds,iv x.forced] 34):=⟨_,rfl⟩;have BX:=uU (dW.new w1 x (.slice ar0 x.regs.length kr0) (.slice ac0 x.cells.length kc0) (.slice ag0 x.gray.length kg0) 34);have XA:Ext w1 W1:=by rw[hW1];exact(Ext.refl _).alloc _
 rw[<-hW1] at BX ⊢;obtain⟨p,hp⟩:∃p,p=w1.heap.size:=⟨_,rfl⟩;rw[<-hp] at BX ⊢;have XW:=uU (x1.trans XA);have VX:=uU (V1.ext XA);clear hW1 hp XA x1 V1 he QG;go_wp2_with fail;refine(b4n W1 _ 0 (by omega) (BV.ext XW)).mono ?_;rintro e w2 ⟨a,he,a0,a1,rfl⟩;have e2:=uH he;subst e2;go_wp2_with fail;refine(b4n w2 _ 1 (by omega) (BV.ext XW)).mono ?_;rintro e w3 ⟨b,he,b0,b1,rfl⟩;have e2:=uH he;subst e2;clear he BV;obtain⟨c0,c1,c2,c3,c4,c5,c6,c7,c8,c9,c10,c11,c12⟩:=uH BX;have hpw:p<w3.heap.size:=uL c0;go_wp2_with fail;have QS:=uU (λ(W:World) (e:Ext w3 W) (n:Int)=>a9k x n W (VX.ext e).1.1 (VX.ext e).1.2.1 (VX.ext e).1.2.2 (VX.ext e).2);have s100:a<=100000:=by omega
 refine(QS w3 (Ext.refl _) a).mono ?_;rintro e w4 ⟨y,k,ar1,kr1,ac1,kc1,ag1,kg1,he,st,ha,x4⟩;have e2:=uH he;subst e2;have VY:=uU ha.hv;have ST:=uU st;have LE:=uU (ST.le S a0 s100);clear he st ha c0 c1 c2 c3 c4 c5 c6 c7 c8 c9 c10 c11 c12 hpw
 go_upto_region 7 with(fail)
 obtain⟨W4,hW4⟩:∃W,W=w4.alloc (.cells #[iv y.room,iv y.used,iv y.born,.slice ar1 y.regs.length kr1,.slice ac1 y.cells.length kc1,iv y.phase,iv y.hand,iv y.sub,.slice ag1 y.gray.length kg1,iv y.per,iv y.start,iv y.rounds,iv y.forced,iv k] 56):=⟨_,rfl⟩;have Bp4:SBx W4 w4.heap.size y k (.slice ar1 y.regs.length kr1) (.slice ac1 y.cells.length kc1) (.slice ag1 y.gray.length kg1):=by rw[hW4];exact SBx.new w4 y k (.slice ar1 y.regs.length kr1) (.slice ac1 y.cells.length kc1) (.slice ag1 y.gray.length kg1) 56
 have XA:Ext w4 W4:=by rw[hW4];exact(Ext.refl _).alloc _
 rw[<-hW4];obtain⟨p4,hp4⟩:∃p,p=w4.heap.size:=⟨_,rfl⟩;rw[<-hp4] at Bp4 ⊢;have BX:=uU (BX.ext (x4.trans XA));have X4:=uU (x4.trans XA);have VY:=uU (VY.ext XA);have B4:=uU Bp4;clear hW4 XA x4 Bp4 hp4;obtain⟨c0,c1,c2,c3,c4,c5,c6,c7,c8,c9,c10,c11,c12⟩:=uH BX;have hpw:p<W4.heap.size:=uL c0;go_wp2_with fail;refine(b5d x a W4 (VX.ext X4).1.1 (VX.ext X4).1.2.1 (VX.ext X4).1.2.2).mono ?_;rintro e w5 ⟨y',k',ar2,kr2,ac2,kc2,ag2,kg2,he,st,hr,x5⟩;have e2:=uH he;subst e2;obtain⟨ey,ek⟩:=ST.uniq st;subst ey;subst ek;have VR:=uU hr;clear he st hr c0 c1 c2 c3 c4 c5 c6 c7 c8 c9 c10 c11 c12 hpw
 go_upto_region 8 with(fail)
 obtain⟨W5,hW5⟩:∃W,W=w5.alloc (.cells #[iv y.room,iv y.used,iv y.born,.slice ar2 y.regs.length kr2,.slice ac2 y.cells.length kc2,iv y.phase,iv y.hand,iv y.sub,.slice ag2 y.gray.length kg2,iv y.per,iv y.start,iv y.rounds,iv y.forced,iv k] 56):=⟨_,rfl⟩;have Bp5:SBx W5 w5.heap.size y k (.slice ar2 y.regs.length kr2) (.slice ac2 y.cells.length kc2) (.slice ag2 y.gray.length kg2):=by rw[hW5];exact SBx.new w5 y k (.slice ar2 y.regs.length kr2) (.slice ac2 y.cells.length kc2) (.slice ag2 y.gray.length kg2) 56
 have XA:Ext w5 W5:=by rw[hW5];exact(Ext.refl _).alloc _
 rw[<-hW5];obtain⟨p5,hp5⟩:∃p,p=w5.heap.size:=⟨_,rfl⟩;rw[<-hp5] at Bp5 ⊢;have X5:=uU (X4.trans (x5.trans XA));have BX:=uU (BX.ext (x5.trans XA));have B4:=uU (B4.ext (x5.trans XA));have B5:=uU Bp5;have VY:=uU (VY.ext (x5.trans XA));have VR:=uU (VR.ext XA);clear hW5 XA x5 Bp5 hp5 X4;obtain⟨⟨e0,e1,e2,e3,e4,e5,e6,e7,e8,e9,e10,e11,e12⟩,e13⟩:=uH B4;obtain⟨⟨f0,f1,f2,f3,f4,f5,f6,f7,f8,f9,f10,f11,f12⟩,f13⟩:=uH B5;have h4w:p4<W5.heap.size:=uL e0;have h5w:p5<W5.heap.size:=uL f0;go_cut [63] (λs wx=>s=.bool false/\Hid (Ext W5 wx))
 case first=>
  obtain⟨l1,l2⟩:=LE;have l3:¬((k:Int) > a):=by omega
  go_wp2_with fail;refine(b3d y W5 VY.1 VR).mono ?_;rintro e w6 ⟨rfl,x6⟩;have B4:=uU (B4.ext x6);have B5:=uU (B5.ext x6);clear e0 e1 e2 e3 e4 e5 e6 e7 e8 e9 e10 e11 e12 e13 f0 f1 f2 f3 f4 f5 f6 f7 f8 f9 f10 f11 f12 f13 h4w h5w;obtain⟨⟨e0,e1,e2,e3,e4,e5,e6,e7,e8,e9,e10,e11,e12⟩,e13⟩:=uH B4;obtain⟨⟨f0,f1,f2,f3,f4,f5,f6,f7,f8,f9,f10,f11,f12⟩,f13⟩:=uH B5;have h4w:p4<w6.heap.size:=uL e0;have h5w:p5<w6.heap.size:=uL f0;by_cases l4:(k:Int)<a
  ·have l5:(y.phase != 0)=false:=by simpa using l2 l4
   go_wp2_with fail;go_meet;exact⟨by rw[decide_eq_false (show ¬a<(k:Int) by omega)],x6⟩
  ·go_wp2_with fail;go_meet;exact⟨by rw[decide_eq_false (show ¬a<(k:Int) by omega)],x6⟩
 case rest=>
  obtain⟨rfl,x6⟩:=hcut;obtain⟨w6,hw6⟩:∃W,W=wc:=⟨_,rfl⟩;subst hw6;have X6:=uU (X5.trans x6);have BX:=uU (BX.ext x6);have B4:=uU (B4.ext x6);have VY:=uU (VY.ext x6);clear e0 e1 e2 e3 e4 e5 e6 e7 e8 e9 e10 e11 e12 e13 f0 f1 f2 f3 f4 f5 f6 f7 f8 f9 f10 f11 f12 f13 h4w h5w x6 VR B5 X5;obtain⟨⟨e0,e1,e2,e3,e4,e5,e6,e7,e8,e9,e10,e11,e12⟩,e13⟩:=uH B4;have h4w:p4<w6.heap.size:=uL e0
  go_upto_region 10 with(fail)
  go_cut [73] (λs wx=>wx=w6/\∃t:Bool,s=.bool t/\Hid (t=true->(k:Int)=a/\y.phase≠0))
  case first=>
   cases t1:((k:Int) == a)
   ·go_wp2_with fail;go_meet;exact⟨rfl,_,rfl,λe=>by cases e⟩
   ·cases t2:(y.phase != 0)
    ·go_wp2_with fail;go_meet;exact⟨rfl,_,rfl,λe=>by cases e⟩
    ·go_wp2_with fail;go_meet;exact⟨rfl,_,rfl,λ_=>⟨by simpa using t1,by simpa using t2⟩⟩
  case rest=>
   obtain⟨rfl,t,rfl,ht⟩:=hcut;obtain⟨w6,hw6⟩:∃W,W=wc:=⟨_,rfl⟩;subst hw6;clear e0 e1 e2 e3 e4 e5 e6 e7 e8 e9 e10 e11 e12 e13 h4w
   go_upto_if 73 with(fail)
   go_cut [] (λwx=>Hid (Ext w6 wx))
   case first=>
    cases t
    ·go_wp2_with fail;go_meet;exact Ext.refl _
    ·obtain⟨ka,yp⟩:=ht rfl;have SY:=uU (ST.snd S a0 s100);obtain⟨⟨e0,e1,e2,e3,e4,e5,e6,e7,e8,e9,e10,e11,e12⟩,e13⟩:=uH B4;have h4w:p4<w6.heap.size:=uL e0;go_wp2_with fail;refine(a9k y b w6 VY.1.1 VY.1.2.1 VY.1.2.2 VY.2).mono ?_;rintro e w7 ⟨z,k2,ar3,kr3,ac3,kc3,ag3,kg3,he,st2,ha,x7⟩;have e2:=uH he;subst e2;have VZ:=uU ha.hv;have ST2:=uU st2;clear he st2 ha e0 e1 e2 e3 e4 e5 e6 e7 e8 e9 e10 e11 e12 e13 h4w
     go_upto_region 12 with(fail)
     obtain⟨W7,hW7⟩:∃W,W=w7.alloc (.cells #[iv z.room,iv z.used,iv z.born,.slice ar3 z.regs.length kr3,.slice ac3 z.cells.length kc3,iv z.phase,iv z.hand,iv z.sub,.slice ag3 z.gray.length kg3,iv z.per,iv z.start,iv z.rounds,iv z.forced,iv k2] 56):=⟨_,rfl⟩;have Bp7:SBx W7 w7.heap.size z k2 (.slice ar3 z.regs.length kr3) (.slice ac3 z.cells.length kc3) (.slice ag3 z.gray.length kg3):=by rw[hW7];exact SBx.new w7 z k2 (.slice ar3 z.regs.length kr3) (.slice ac3 z.cells.length kc3) (.slice ag3 z.gray.length kg3) 56
     have XA:Ext w7 W7:=by rw[hW7];exact(Ext.refl _).alloc _
     rw[<-hW7];obtain⟨p7,hp7⟩:∃p,p=w7.heap.size:=⟨_,rfl⟩;rw[<-hp7] at Bp7 ⊢;have X7:=uU (x7.trans XA);have BX:=uU (BX.ext (x7.trans XA));have VZ:=uU (VZ.ext XA);have B7:=uU Bp7;clear hW7 XA x7 Bp7 hp7;obtain⟨c0,c1,c2,c3,c4,c5,c6,c7,c8,c9,c10,c11,c12⟩:=uH BX;have hpw:p<W7.heap.size:=uL c0;go_wp2_with fail;refine(QS W7 (X6.trans X7) (a+b)).mono ?_;rintro e w8 ⟨z',k3,ar4,kr4,ac4,kc4,ag4,kg4,he,st3,ha,x8⟩;have e2:=uH he;subst e2;obtain⟨ez,ek⟩:=tK.add S a0 (by omega) b0 (by omega) ST ka yp ST2 st3;subst ez;have EK:=uU ek;have VZ2:=uU ha.hv;clear he st3 ha c0 c1 c2 c3 c4 c5 c6 c7 c8 c9 c10 c11 c12 hpw ek
     go_upto_region 13 with(fail)
     obtain⟨W8,hW8⟩:∃W,W=w8.alloc (.cells #[iv z'.room,iv z'.used,iv z'.born,.slice ar4 z'.regs.length kr4,.slice ac4 z'.cells.length kc4,iv z'.phase,iv z'.hand,iv z'.sub,.slice ag4 z'.gray.length kg4,iv z'.per,iv z'.start,iv z'.rounds,iv z'.forced,iv k3] 56):=⟨_,rfl⟩;have Bp8:SBx W8 w8.heap.size z' k3 (.slice ar4 z'.regs.length kr4) (.slice ac4 z'.cells.length kc4) (.slice ag4 z'.gray.length kg4):=by rw[hW8];exact SBx.new w8 z' k3 (.slice ar4 z'.regs.length kr4) (.slice ac4 z'.cells.length kc4) (.slice ag4 z'.gray.length kg4) 56
     have XA:Ext w8 W8:=by rw[hW8];exact(Ext.refl _).alloc _
     rw[<-hW8];obtain⟨p8,hp8⟩:∃p,p=w8.heap.size:=⟨_,rfl⟩;rw[<-hp8] at Bp8 ⊢;have X8:=uU (X7.trans (x8.trans XA));have B7:=uU (B7.ext (x8.trans XA));have B8:=uU Bp8;have VZ:=uU (VZ.ext (x8.trans XA));have VZ2:=uU (VZ2.ext XA);clear hW8 XA x8 Bp8 hp8 X7;obtain⟨⟨e0,e1,e2,e3,e4,e5,e6,e7,e8,e9,e10,e11,e12⟩,e13⟩:=uH B7;obtain⟨⟨f0,f1,f2,f3,f4,f5,f6,f7,f8,f9,f10,f11,f12⟩,f13⟩:=uH B8;have h7w:p7<W8.heap.size:=uL e0;have h8w:p8<W8.heap.size:=uL f0;go_wp2_with fail;refine(b3d z' W8 VZ.1 VZ2.1).mono ?_;rintro e w9 ⟨rfl,x9⟩;have B7:=uU (B7.ext x9);have B8:=uU (B8.ext x9);have X9:=uU (X8.trans x9);clear e0 e1 e2 e3 e4 e5 e6 e7 e8 e9 e10 e11 e12 e13 f0 f1 f2 f3 f4 f5 f6 f7 f8 f9 f10 f11 f12 f13 h7w h8w x9;obtain⟨⟨e0,e1,e2,e3,e4,e5,e6,e7,e8,e9,e10,e11,e12⟩,e13⟩:=uH B7;obtain⟨⟨f0,f1,f2,f3,f4,f5,f6,f7,f8,f9,f10,f11,f12⟩,f13⟩:=uH B8;have h7w:p7<w9.heap.size:=uL e0;have h8w:p8<w9.heap.size:=uL f0;have kb:=ST2.le SY b0 (by omega);have kb1:=kb.1;clear kb;have ek:((k3:Int) != a+(k2:Int))=false:=by have:=uH EK;simp;omega
     go_wp2_with fail;go_meet;exact X9
   case rest=>
    obtain⟨w10,hw10⟩:∃W,W=wc:=⟨_,rfl⟩;subst hw10;have X10:=uU (X6.trans hcut);have BX:=uU (BX.ext hcut);have XE:=uU (XW.trans X10);have VX:=uU (VX.ext X10);clear hcut X6 B4 VY ht;obtain⟨c0,c1,c2,c3,c4,c5,c6,c7,c8,c9,c10,c11,c12⟩:=uH BX;have hpw:p<w10.heap.size:=uL c0;go_wp2_with fail;refine(b5y x w10 VX.1.1 VX.1.2.1 VX.1.2.2 VX.2).mono ?_;rintro e w11 ⟨n,rfl,le,x11⟩;have BX:=uU (BX.ext x11);have LN:=uU le;have VX:=uU (VX.ext x11);have X11:=uU (X10.trans x11);have XE:=uU (XE.trans x11);clear c0 c1 c2 c3 c4 c5 c6 c7 c8 c9 c10 c11 c12 hpw x11 le X10;obtain⟨c0,c1,c2,c3,c4,c5,c6,c7,c8,c9,c10,c11,c12⟩:=uH BX;have hpw:p<w11.heap.size:=uL c0;go_wp2_with fail;refine(b5z x w11 VX.1.1 VX.1.2.1 VX.1.2.2).mono ?_;rintro e w12 ⟨n',rfl,le,x12⟩;have en:=a5p.uniq LN le;subst en;have BX:=uU (BX.ext x12);have X12:=uU (X11.trans x12);have XE:=uU (XE.trans x12);clear c0 c1 c2 c3 c4 c5 c6 c7 c8 c9 c10 c11 c12 hpw x12 le X11 VX;obtain⟨c0,c1,c2,c3,c4,c5,c6,c7,c8,c9,c10,c11,c12⟩:=uH BX;have hpw:p<w12.heap.size:=uL c0;have LZ:=uU (LN.zero S);cases t:(x.phase == 0)
    ·have t2:((n:Int) == 0)=false:=by
      have h1:x.phase≠0:=by simpa using t
      have h2:n≠0:=λe=>h1 (LZ.1 e)
      simp;omega
     by_cases h3:(n:Int) > 100000
     ·go_wp2_with fail;go_ret;exact⟨rfl,XE⟩
     ·have fl0:=c8o;have fl5:=c4z;go_wp2_with fail;refine(QS w12 X12 n).mono ?_;rintro e w13 ⟨y3,k3,ar5,kr5,ac5,kc5,ag5,kg5,he,st3,ha,x13⟩;have e2:=uH he;subst e2;have q3:(y3.phase == 0)=true:=by have:=LN.all S (by omega) st3;simpa using this
      have BX:=uU (BX.ext x13);have X13:=uU (X12.trans x13);have XE:=uU (XE.trans x13);clear c0 c1 c2 c3 c4 c5 c6 c7 c8 c9 c10 c11 c12 hpw x13 st3 ha;obtain⟨c0,c1,c2,c3,c4,c5,c6,c7,c8,c9,c10,c11,c12⟩:=uH BX;have hpw:p<w13.heap.size:=uL c0;cases t4:((n:Int) == 1)
      ·have n1:1<n:=by
        have h1:(n:Int)≠1:=by simpa using t4
        have h2:(n:Int)≠0:=by simpa using t2
        omega
       go_wp2_with fail;refine(QS w13 X13 ((n:Int)-1)).mono ?_;rintro e w14 ⟨y4,k4,ar6,kr6,ac6,kc6,ag6,kg6,he,st4,ha,x14⟩;have e2:=uH he;subst e2;have q4:(y4.phase != 0)=true:=by have:=LN.less S (by omega) n1 st4;simpa using this
       go_wp2_with fail;go_ret;exact⟨rfl,XE.trans x14⟩
      ·go_wp2_with fail;go_ret;exact⟨rfl,XE⟩
    ·have t2:n=0:=LZ.2 (by simpa using t);subst t2;go_wp2_with fail;go_ret;exact⟨rfl,XE⟩
end Go.Proofs.YtddkhnclmeikfaaGreat
