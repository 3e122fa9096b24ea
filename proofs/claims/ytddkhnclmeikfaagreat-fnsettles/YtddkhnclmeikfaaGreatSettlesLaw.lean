import Derived.Test.YtddkhnclmeikfaaGreatRby
import Derived.Test.YtddkhnclmeikfaaGreatSh4
set_option maxRecDepth 100000
set_option maxHeartbeats 4000000
namespace Go.Proofs.YtddkhnclmeikfaaGreat
open Go.RowKit
attribute [local go_sem ↓] Go.wp_at_zero Go.wp_at_succ
variable{w w':World}{x y:Hp}{ar ac ag:Option Addr}{kr kc kg B g d g' d':Nat}{r:Int}{ur uc ug:Value}
theorem HV.ext(h:HV w x ar kr ac kc ag kg)(e:Ext w w'):HV w' x ar kr ac kc ag kg:=⟨h.1.ext e,h.2.extS h.1.2.1 e⟩
theorem HA.hv{U:Nat}(h:HA B U w y ar kr ac kc ag kg):HV w y ar kr ac kc ag kg:=by
 refine⟨h.rd,?_⟩;rcases h with⟨rfl,rfl,rfl,rfl,rfl,rfl,rfl⟩ | ⟨br,bc,bg,pb,pa,pk,rfl,rfl,rfl,h⟩
 ·intro i hi;simp [Hp0] at hi
 ·intro i hi b2 oc ad l c ha hc;simp only [Option.some.injEq,Addr.mk.injEq] at ha;obtain⟨rfl,rfl,_⟩:=ha;rw[Nat.zero_add,h.p7 i hi] at hc;simp only [Option.some.injEq,Value.slice.injEq] at hc;obtain⟨_,rfl,rfl⟩:=hc;exact .inl (h.k i hi)
def TBx(w:World)(B:Nat)(x:Hp)(g d:Nat)(vr vc vg:Value):Prop:=dY w B x vr vc vg/\w.cell? ⟨B,13,none⟩=some (iv g)/\w.cell? ⟨B,14,none⟩=some (iv d)
theorem TBx.ext{vr vc vg:Value}(h:TBx w B x g d vr vc vg)(e:Ext w w'):TBx w' B x g d vr vc vg:=⟨h.1.ext e,e.keep h.2.1,e.keep h.2.2⟩
theorem TBx.new(w:World)(x:Hp)(g d:Nat)(vr vc vg:Value)(t:TypeId):TBx (w.alloc (.cells #[iv x.room,iv x.used,iv x.born,vr,vc,iv x.phase,iv x.hand,iv x.sub,vg,iv x.per,iv x.start,iv x.rounds,iv x.forced,iv g,iv d] t)) w.heap.size x g d vr vc vg:=by
 refine⟨?_,by simp [go_sem],by simp [go_sem]⟩;unfold dY;refine⟨?_,?_,?_,?_,?_,?_,?_,?_,?_,?_,?_,?_,?_⟩ <;> simp [go_sem]
theorem b6i{r:Nat}(h:HV w x ar kr ac kc ag kg)(c:a9x x r)(e:Up w w'):Calls Tryz.prog 25 #[x.v (.slice ar x.regs.length kr) (.slice ac x.cells.length kc) (.slice ag x.gray.length kg)] w' λe w''=>e=.returned (.int .i64 (r:Int))/\Up w w'':=
 a3a ((b2d x w' (h.ext e.ext).1.1 (h.ext e.ext).1.2.1 (h.ext e.ext).1.2.2 (h.ext e.ext).2).mono (by
  rintro e w'' ⟨s,he,k,x⟩;rw[c.uniq k];exact⟨he,x⟩)) e
theorem c7a(h:HV w x ar kr ac kc ag kg)(c:a6o x r)(e:Up w w'):Calls Tryz.prog 42 #[x.v (.slice ar x.regs.length kr) (.slice ac x.cells.length kc) (.slice ag x.gray.length kg)] w' λe w''=>e=.returned (.int .i64 r)/\Up w w'':=
 a3a ((b2g x w' (h.ext e.ext).1.1 (h.ext e.ext).1.2.1 (h.ext e.ext).1.2.2 (h.ext e.ext).2).mono (by
  rintro e w'' ⟨s,he,k,x⟩;rw[c.uniq (uH k)];exact⟨he,x⟩)) e
theorem c3a(h:HV w x ar kr ac kc ag kg)(c:a6o x r)(e:Up w w'):Calls Tryz.prog 43 #[x.v (.slice ar x.regs.length kr) (.slice ac x.cells.length kc) (.slice ag x.gray.length kg)] w' λe w''=>e=.returned (.int .i64 r)/\Up w w'':=
 a3a ((b2h x w' (h.ext e.ext).1.1 (h.ext e.ext).1.2.1 (h.ext e.ext).1.2.2).mono (by
  rintro e w'' ⟨s,he,k,x⟩;rw[c.uniq (uH k)];exact⟨he,x⟩)) e
def a7n(w:World)(B:Nat)(x:Hp)(g d:Nat)(vr vc vg:Value):World:=(((((((((((((((w.setCell ⟨B,0,none⟩ (.int .i64 x.room)).setCell ⟨B,1,none⟩ (.int .i64 x.used)).setCell ⟨B,2,none⟩ (.int .i64 x.born)).setCell ⟨B,3,none⟩ vr).setCell ⟨B,4,none⟩ vc).setCell ⟨B,5,none⟩ (.int .i64 x.phase)).setCell ⟨B,6,none⟩ (.int .i64 x.hand)).setCell ⟨B,7,none⟩ (.int .i64 x.sub)).setCell ⟨B,8,none⟩ vg).setCell ⟨B,9,none⟩ (.int .i64 x.per)).setCell ⟨B,10,none⟩ (.int .i64 x.start)).setCell ⟨B,11,none⟩ (.int .i64 x.rounds)).setCell ⟨B,12,none⟩ (.int .i64 x.forced)).setCell ⟨B,13,none⟩ (.int .i64 g)).setCell ⟨B,14,none⟩ (.int .i64 d))
theorem b2m{n:Int}{z:Hp}(h:((muS z z.cells.length+g+d:Nat):Int)<=n/\n<=4000)(h1:1<=g+d)(e:muS y y.cells.length+g'+d'=muS z z.cells.length):((muS y y.cells.length+g'+d':Nat):Int)<=n-1/\n-1<=4000:=by omega
theorem c3b(w:World)(B:Nat)(x:Hp)(g d:Nat)(vr vc vg:Value):uX (λq=>q=B) w (a7n w B x g d vr vc vg):=by
 unfold a7n
 iterate 15 (refine uX.setCell (S:=λq=>q=B) ?_ rfl _)
 exact uX.refl _ _
theorem d0i(h:Nf1 B w)(x:Hp)(g d:Nat)(vr vc vg:Value):Nf1 B (a7n w B x g d vr vc vg):=by
 unfold a7n
 iterate 15 (refine Nf1.set ?_ _ _)
 exact h
theorem d0j(h:TBx w B y g' d' ur uc ug)(x:Hp)(g d:Nat)(vr vc vg:Value):TBx (a7n w B x g d vr vc vg) B x g d vr vc vg:=by
 obtain⟨⟨e0,e1,e2,e3,e4,e5,e6,e7,e8,e9,e10,e11,e12⟩,e13,e14⟩:=h;unfold a7n;refine⟨?_,?_,?_⟩
 ·unfold dY;refine⟨?_,?_,?_,?_,?_,?_,?_,?_,?_,?_,?_,?_,?_⟩ <;> simp [go_sem, *]
 ·simp [go_sem, *]
 ·simp [go_sem, *]
theorem c0w{w0 w8 W:World}(h:TBx w8 B y g' d' ur uc ug)(f:Nf1 B w8)(e:Ext w0 w8)(b:w0.heap.size<=B)(l:B<w.heap.size)(ha:HA w.heap.size w8.heap.size w8 x ar kr ac kc ag kg)(hW:W=a7n w8 B x g d (.slice ar x.regs.length kr) (.slice ac x.cells.length kc) (.slice ag x.gray.length kg)):
  TBx W B x g d (.slice ar x.regs.length kr) (.slice ac x.cells.length kc) (.slice ag x.gray.length kg)/\HV W x ar kr ac kc ag kg/\Nf1 B W/\Ext w0 W:=by
 subst hW;have o:=c3b w8 B x g d (.slice ar x.regs.length kr) (.slice ac x.cells.length kc) (.slice ag x.gray.length kg);exact⟨d0j h x g d _ _ _,(ha.only o (λq h1 _ e=>by omega)).hv,d0i f x g d _ _ _,o.ext e (λk hk e=>by omega)⟩
theorem b5e(w:World)(u:Value)(hu:ByAt w u):
  Calls Tryz.prog 7 #[u] w λe w'=>e=.returned (.bool true)/\Ext w w':=by
 have QG:=uU (c6s w u hu);obtain⟨au,nu,ku,rfl,hnu,_⟩:=hu;have hnu2:¬((nu:Int) > 1048576):=by omega
 go_enter Tryz.func7,Tryz.ntmps7;go_wp2_with fail;refine QG.mono ?_;rintro e w1 ⟨x,ar0,kr0,ac0,kc0,ag0,kg0,he,S,V1,x1⟩;have e2:=uH he;subst e2
 go_upto_region 4 with(fail)
 obtain⟨W1,hW1⟩:∃W,W=w1.alloc (.cells #[iv x.room,iv x.used,iv x.born,.slice ar0 x.regs.length kr0,.slice ac0 x.cells.length kc0,iv x.phase,iv x.hand,iv x.sub,.slice ag0 x.gray.length kg0,iv x.per,iv x.start,iv x.rounds,iv x.forced] 34):=⟨_,rfl⟩;have BX:=uU (dY.new w1 x (.slice ar0 x.regs.length kr0) (.slice ac0 x.cells.length kc0) (.slice ag0 x.gray.length kg0) 34);have XA:Ext w1 W1:=by rw[hW1];exact(Ext.refl _).alloc _
 rw[<-hW1] at BX ⊢;obtain⟨p,hp⟩:∃p,p=w1.heap.size:=⟨_,rfl⟩;rw[<-hp] at BX ⊢;have XW:=uU (x1.trans XA);have VX:=uU (V1.ext XA);clear hW1 hp XA x1 V1 he QG;have OK:=uU (show eU x 0 from S.ok);obtain⟨c0,c1,c2,c3,c4,c5,c6,c7,c8,c9,c10,c11,c12⟩:=uH BX;have hpw:p<W1.heap.size:=uL c0;go_wp2_with fail;refine(b5c x W1 VX.1.1 VX.1.2.1 VX.1.2.2 VX.2).mono ?_;rintro e w2 ⟨v,he,hh,x2⟩;have e2:=uH he;subst e2;have BX:=uU (BX.ext x2);have VX:=uU (VX.ext x2);have XW:=uU (XW.trans x2);obtain⟨no,_⟩ | ⟨_,bs,P,rfl,hbs,R1,hP⟩:=uH hh
 ·exact absurd OK no
 have HR:=uU R1;have HP:=uU hP;clear he hh x2 R1 hP c0 c1 c2 c3 c4 c5 c6 c7 c8 c9 c10 c11 c12 hpw;obtain⟨c0,c1,c2,c3,c4,c5,c6,c7,c8,c9,c10,c11,c12⟩:=uH BX;have hpw:p<w2.heap.size:=uL c0;go_wp2_with fail;refine(b5d x w2 VX.1.1 VX.1.2.1 VX.1.2.2 VX.2).mono ?_;rintro e w3 ⟨v,he,hh,x3⟩;have e2:=uH he;subst e2;have BX:=uU (BX.ext x3);have VX:=uU (VX.ext x3);have XW:=uU (XW.trans x3);have HR:=uU (HR.ext x3);obtain⟨no,_⟩ | ⟨_,br,Q,rfl,hbr,R1,hQ⟩:=uH hh
 ·exact absurd OK no
 have RR:=uU R1;have SUB:=uU (λi (h:P i=true)=>(show Q i=true from(hQ i).2 (dK.reached S.r2 ((HP i).1 h))));clear he hh x3 R1 hQ c0 c1 c2 c3 c4 c5 c6 c7 c8 c9 c10 c11 c12 hpw;obtain⟨c0,c1,c2,c3,c4,c5,c6,c7,c8,c9,c10,c11,c12⟩:=uH BX;have hpw:p<w3.heap.size:=uL c0;go_wp2_with fail;go_loopw [6,35] (λ_i i wr=>Hid (wr=w3)/\∃k:Nat,k<=x.cells.length/\i=.int .i64 k) (λ_ i _=>x.cells.length-(intOf i).toNat)
 case atStart=>exact⟨rfl,0,Nat.zero_le _,rfl⟩
 case round=>
  obtain⟨hw,k,hk,rfl⟩:=hrel;have hw2:=uH hw;subst hw2;clear hw;by_cases hlt:k<x.cells.length
  ·have n8:=OK.n8;have HL:=uU (show k+1<=x.cells.length from hlt);obtain⟨u,hu,hu2⟩:=HR.s k hlt;obtain⟨t,ht,ht2⟩:=RR.s k hlt;have e3:u=true->t=true:=λe=>by rw[ht2 hlt];exact SUB k (by rw[<-hu2 hlt];exact e)
   clear hu2 ht2;have hb:bs<wr.heap.size:=uL hu;have hb':br<wr.heap.size:=uL ht;have hk0:(0:Int)<=(k:Int):=by omega
   have hk1:(k:Int)<(x.cells.length:Int):=by omega
   cases u
   ·clear ht e3 hb';go_wp2_with fail;go_roundw
    ·exact⟨trivial,k+1,HL,by go_num⟩
    ·have:=uH HL;simp [intOf];omega
   ·have e4:=e3 rfl;subst e4;clear e3;go_wp2_with fail;go_roundw
    ·exact⟨trivial,k+1,HL,by go_num⟩
    ·have:=uH HL;simp [intOf];omega
  ·have hke:k=x.cells.length:=by omega
   subst hke;clear hk hlt;clear SUB HR RR;go_wp2_with fail;refine(a4j x wr VX.1.1 VX.1.2.1 VX.1.2.2 VX.2).mono ?_;rintro e w4 ⟨y,g,d,ar1,kr1,ac1,kc1,ag1,kg1,he,st,ha,x4⟩;have e2:=uH he;subst e2;have VY:=uU ha.hv;have ST:=uU st;clear he st ha c0 c1 c2 c3 c4 c5 c6 c7 c8 c9 c10 c11 c12 hpw
   go_upto_region 15 with(fail)
   obtain⟨W4,hW4⟩:∃W,W=w4.alloc (.cells #[iv y.room,iv y.used,iv y.born,.slice ar1 y.regs.length kr1,.slice ac1 y.cells.length kc1,iv y.phase,iv y.hand,iv y.sub,.slice ag1 y.gray.length kg1,iv y.per,iv y.start,iv y.rounds,iv y.forced,iv g,iv d] 69):=⟨_,rfl⟩;have Bp4:TBx W4 w4.heap.size y g d (.slice ar1 y.regs.length kr1) (.slice ac1 y.cells.length kc1) (.slice ag1 y.gray.length kg1):=by rw[hW4];exact TBx.new w4 y g d (.slice ar1 y.regs.length kr1) (.slice ac1 y.cells.length kc1) (.slice ag1 y.gray.length kg1) 69
   have NF:=uU (show Nf1 w4.heap.size W4 by rw[hW4];exact b2k _ _ _);have XA:Ext w4 W4:=by rw[hW4];exact(Ext.refl _).alloc _
   rw[<-hW4];obtain⟨p4,hp4⟩:∃p,p=w4.heap.size:=⟨_,rfl⟩;rw[<-hp4] at Bp4 NF ⊢;have P4:=uU (show w.heap.size<=p4 by rw[hp4];exact(XW.trans x4).size);have BX:=uU (BX.ext (x4.trans XA));have VX:=uU (VX.ext (x4.trans XA));have XW:=uU (XW.trans (x4.trans XA));have VY:=uU (VY.ext XA);have B4:=uU Bp4;clear hW4 XA x4 Bp4 hp4;obtain⟨c0,c1,c2,c3,c4,c5,c6,c7,c8,c9,c10,c11,c12⟩:=uH BX;have hpw:p<W4.heap.size:=uL c0;go_wp2_with fail;refine(b3u x W4 VX.1.1 VX.1.2.1 VX.1.2.2).mono ?_;rintro e w5 ⟨y',g',d',ar2,kr2,ac2,kc2,ag2,kg2,he,st,hr,x5⟩;have e2:=uH he;subst e2;obtain⟨ey,eg,ed⟩:=ST.uniq st;subst ey;subst eg;subst ed;have VR:=uU hr;clear he st hr c0 c1 c2 c3 c4 c5 c6 c7 c8 c9 c10 c11 c12 hpw
   go_upto_region 16 with(fail)
   obtain⟨W5,hW5⟩:∃W,W=w5.alloc (.cells #[iv y.room,iv y.used,iv y.born,.slice ar2 y.regs.length kr2,.slice ac2 y.cells.length kc2,iv y.phase,iv y.hand,iv y.sub,.slice ag2 y.gray.length kg2,iv y.per,iv y.start,iv y.rounds,iv y.forced,iv g,iv d] 69):=⟨_,rfl⟩;have Bp5:TBx W5 w5.heap.size y g d (.slice ar2 y.regs.length kr2) (.slice ac2 y.cells.length kc2) (.slice ag2 y.gray.length kg2):=by rw[hW5];exact TBx.new w5 y g d (.slice ar2 y.regs.length kr2) (.slice ac2 y.cells.length kc2) (.slice ag2 y.gray.length kg2) 69
   have XA:Ext w5 W5:=by rw[hW5];exact(Ext.refl _).alloc _
   rw[<-hW5];obtain⟨p5,hp5⟩:∃p,p=w5.heap.size:=⟨_,rfl⟩;rw[<-hp5] at Bp5 ⊢;have BX:=uU (BX.ext (x5.trans XA));have VX:=uU (VX.ext (x5.trans XA));have XW:=uU (XW.trans (x5.trans XA));have B4:=uU (B4.ext (x5.trans XA));have NF:=uU (NF.ext (x5.trans XA));have B5:=uU Bp5;have VY:=uU (VY.ext (x5.trans XA));have VR:=uU (VR.ext XA);clear hW5 XA x5 Bp5 hp5;obtain⟨c0,c1,c2,c3,c4,c5,c6,c7,c8,c9,c10,c11,c12⟩:=uH BX;have hpw:p<W5.heap.size:=uL c0;obtain⟨⟨e0,e1,e2,e3,e4,e5,e6,e7,e8,e9,e10,e11,e12⟩,e13,e14⟩:=uH B4;obtain⟨⟨f0,f1,f2,f3,f4,f5,f6,f7,f8,f9,f10,f11,f12⟩,f13,f14⟩:=uH B5;have h4w:p4<W5.heap.size:=uL e0;have h5w:p5<W5.heap.size:=uL f0;have US:=uU (show x.used-g=y.used/\(g:Int)<=x.used/\x.used<=4000 from⟨(a0t S ST).1,(a0t S ST).2.1,c3w S⟩);go_wp2_with fail;refine(c2r y W5 VY.1 VR).mono ?_;rintro e w6 ⟨rfl,x6⟩;have BX:=uU (BX.ext x6);have VX:=uU (VX.ext x6);have XW:=uU (XW.trans x6);have B4:=uU (B4.ext x6);have NF:=uU (NF.ext x6);have VY:=uU (VY.ext x6);clear x6 B5 VR c0 c1 c2 c3 c4 c5 c6 c7 c8 c9 c10 c11 c12 hpw e0 e1 e2 e3 e4 e5 e6 e7 e8 e9 e10 e11 e12 e13 e14 f0 f1 f2 f3 f4 f5 f6 f7 f8 f9 f10 f11 f12 f13 f14 h4w h5w;obtain⟨c0,c1,c2,c3,c4,c5,c6,c7,c8,c9,c10,c11,c12⟩:=uH BX;have hpw:p<w6.heap.size:=uL c0;obtain⟨⟨e0,e1,e2,e3,e4,e5,e6,e7,e8,e9,e10,e11,e12⟩,e13,e14⟩:=uH B4;have h4w:p4<w6.heap.size:=uL e0;obtain⟨us1,us2,us3⟩:=uH US
   go_upto_region 18 with(fail)
   have KP:=uU (λ(W:World) (e:Up w6 W)=>(show W.cell? ⟨p,0,none⟩=some (iv x.room)/\W.cell? ⟨p,1,none⟩=some (iv x.used)/\W.cell? ⟨p,2,none⟩=some (iv x.born)/\W.cell? ⟨p,3,none⟩=some (.slice ar0 x.regs.length kr0)/\W.cell? ⟨p,4,none⟩=some (.slice ac0 x.cells.length kc0)/\W.cell? ⟨p,5,none⟩=some (iv x.phase)/\W.cell? ⟨p,6,none⟩=some (iv x.hand)/\W.cell? ⟨p,7,none⟩=some (iv x.sub)/\W.cell? ⟨p,8,none⟩=some (.slice ag0 x.gray.length kg0)/\W.cell? ⟨p,9,none⟩=some (iv x.per)/\W.cell? ⟨p,10,none⟩=some (iv x.start)/\W.cell? ⟨p,11,none⟩=some (iv x.rounds)/\W.cell? ⟨p,12,none⟩=some (iv x.forced)/\W.cell? ⟨p4,0,none⟩=some (iv y.room)/\W.cell? ⟨p4,1,none⟩=some (iv y.used)/\W.cell? ⟨p4,2,none⟩=some (iv y.born)/\W.cell? ⟨p4,3,none⟩=some (.slice ar1 y.regs.length kr1)/\W.cell? ⟨p4,4,none⟩=some (.slice ac1 y.cells.length kc1)/\W.cell? ⟨p4,5,none⟩=some (iv y.phase)/\W.cell? ⟨p4,6,none⟩=some (iv y.hand)/\W.cell? ⟨p4,7,none⟩=some (iv y.sub)/\W.cell? ⟨p4,8,none⟩=some (.slice ag1 y.gray.length kg1)/\W.cell? ⟨p4,9,none⟩=some (iv y.per)/\W.cell? ⟨p4,10,none⟩=some (iv y.start)/\W.cell? ⟨p4,11,none⟩=some (iv y.rounds)/\W.cell? ⟨p4,12,none⟩=some (iv y.forced)/\W.cell? ⟨p4,13,none⟩=some (iv g)/\W.cell? ⟨p4,14,none⟩=some (iv d) from
    let ⟨c0,c1,c2,c3,c4,c5,c6,c7,c8,c9,c10,c11,c12⟩:=BX.ext e
    let ⟨⟨e0,e1,e2,e3,e4,e5,e6,e7,e8,e9,e10,e11,e12⟩,e13,e14⟩:=B4.ext e
    ⟨c0,c1,c2,c3,c4,c5,c6,c7,c8,c9,c10,c11,c12,e0,e1,e2,e3,e4,e5,e6,e7,e8,e9,e10,e11,e12,e13,e14⟩))
   clear c0 c1 c2 c3 c4 c5 c6 c7 c8 c9 c10 c11 c12 hpw e0 e1 e2 e3 e4 e5 e6 e7 e8 e9 e10 e11 e12 e13 e14 h4w;go_cut [107] (λs wx=>s=.bool false/\Hid (Ext w6 wx))
   case first=>
    obtain⟨dy,DY⟩:=c8z y (a0t S ST).2.2.1;have QD:=uU (λw' (e:Up w6 w')=>c7a VY DY e);have QS:=uU (λw' (e:Up w6 w')=>c3a VY DY e);have F0:=uH KP;clear DY;by_cases hd:d=0
    ·obtain⟨r1,C1⟩:=c0c y (a0t S ST).2.2.1;obtain⟨r2,C2⟩:=c0c x S;have cs:=c2h S (hd ▸ uH ST) C1 C2;have QC1:=uU (λw' (e:Up w6 w')=>b6i VY C1 e);have QC2:=uU (λw' (e:Up w6 w')=>b6i VX C2 e);have n8:=OK.n8;have hr1:(g:Int)<=(r2:Int):=by omega
     have hr2:(r2:Int)<=100000000000:=by omega
     have hr3:decide ((r1:Int) > (r2:Int)-(g:Int))=false:=by simp;omega
     have hr4:((r2:Int)-(g:Int)<(r1:Int))=False:=by simp;omega
     have hd3:decide ((d:Int)=0)=true:=by simpa using hd
     have hd2:((d:Int) == 0)=true:=by simpa using hd
     clear hd C1 C2 cs n8
     ·skip
      refine wp_region_quiet (C:=Up w6) (by kernel_rfl) (by kernel_rfl) (show Ext _ _ from(Ext.refl _).drew) ?_
      go_simp
      repeat (first | go_big_quiet_skip | (go_big_quiet_want;go_big_quiet_op;first | go_big_quiet_on | (apply Exists.intro;refine⟨λw' hw'=>?_,?_⟩;(first | (go_at_call 42;exact(uH QD w' hw')) | (go_at_call 43;exact(uH QS w' hw')) | (go_at_call_of 25 (y.room);exact(uH QC1 w' hw')) | (go_at_call_of 25 (x.room);exact(uH QC2 w' hw')) | (with_reducible rfl) | (go_simp;first | done | (with_reducible rfl) | (refine⟨?_,?_⟩ <;> with_reducible rfl)));go_big_quiet_on)))
      refine wpQuiet_nil ?_;intro w7 hq7;go_wp2_with fail;go_meet;exact⟨rfl,hq7.ext⟩
    ·have hd3:decide ((d:Int)=0)=false:=by simpa using hd
     have hd2:((d:Int) == 0)=false:=by simpa using hd
     clear hd
     ·skip
      refine wp_region_quiet (C:=Up w6) (by kernel_rfl) (by kernel_rfl) (show Ext _ _ from(Ext.refl _).drew) ?_
      go_simp
      repeat (first | go_big_quiet_skip | (go_big_quiet_want;go_big_quiet_op;first | go_big_quiet_on | (apply Exists.intro;refine⟨λw' hw'=>?_,?_⟩;(first | (go_at_call 42;exact(uH QD w' hw')) | (go_at_call 43;exact(uH QS w' hw')) | (go_at_call_of 25 (y.room);exact(uH QC1 w' hw')) | (go_at_call_of 25 (x.room);exact(uH QC2 w' hw')) | (with_reducible rfl) | (go_simp;first | done | (with_reducible rfl) | (refine⟨?_,?_⟩ <;> with_reducible rfl)));go_big_quiet_on)))
      refine wpQuiet_nil ?_;intro w7 hq7;go_wp2_with fail;go_meet;exact⟨rfl,hq7.ext⟩
   case rest=>
    obtain⟨rfl,X7⟩:=hcut;have x7:=uH X7;have XW:=uU (XW.trans x7);have B4:=uU (B4.ext x7);have VY:=uU (VY.ext x7);have NF:=uU (NF.ext x7);have cu:=x7.keep BX.2.1;have hpw:p<wc.heap.size:=uL cu;have MU:=uU (show((muS y y.cells.length+g+d:Nat):Int)<=x.used/\x.used<=4000 from⟨by rw[(a0t (uH S) (uH ST)).2.2.2];exact b8s S,c3w S⟩);have SY:=uU (a0t S ST).2.2.1;clear x7 X7 KP VX BX US us1 us2;go_wp2_with fail;go_loopw [9] (λi wr=>∃(n:Int) (z:Hp) (g d:Nat) (ar:Option Addr) (kr:Nat) (ac:Option Addr) (kc:Nat) (ag:Option Addr) (kg:Nat),i=.int .i64 n/\Hid (((muS z z.cells.length+g+d:Nat):Int)<=n/\n<=4000)/\Hid (Snd z)/\Hid (TBx wr p4 z g d (.slice ar z.regs.length kr) (.slice ac z.cells.length kc) (.slice ag z.gray.length kg))/\Hid (HV wr z ar kr ac kc ag kg)/\Hid (Nf1 p4 wr)/\Hid (Ext w wr)) (λi _=>(intOf i).toNat)
    case atStart=>exact⟨x.used,y,g,d,ar1,kr1,ac1,kc1,ag1,kg1,rfl,MU,SY,B4,VY,NF,XW⟩
    case round=>
     clear MU SY B4 VY NF XW ST OK;obtain⟨n,z,g,d,ar,kr,ac,kc,ag,kg,rfl,MU,SZ,B4,VZ,NF,XW⟩:=hrel;obtain⟨⟨e0,e1,e2,e3,e4,e5,e6,e7,e8,e9,e10,e11,e12⟩,e13,e14⟩:=uH B4;have h4w:p4<wr.heap.size:=uL e0;have hn0:(0:Int)<=n:=by have:=MU.1;omega
     have hn1:n<=4000:=MU.2;by_cases hz:g=0/\d=0
     ·obtain⟨rfl,rfl⟩:=hz;clear MU;go_wp2_with fail;refine(b4p z wr VZ.1.1 VZ.1.2.1 VZ.1.2.2 VZ.2).mono ?_;rintro e w8 ⟨m,he,ok,x8⟩;have e2:=uH he;subst e2;have em:=ok.uniq SZ.ok;subst em;clear he ok;have XZ:=uU (XW.trans x8);clear x8;go_wp2_with fail;go_ret;exact⟨rfl,XZ⟩
     ·have GO:=uU (show 1<=g+d by omega);by_cases hg:g=0
      ·have hd:¬d=0:=λe=>hz ⟨hg,e⟩
       have hd3:¬(d:Int)=0:=by omega
       have hd2:decide ((d:Int)=0)=false:=by simpa using hd
       subst hg;clear hz;go_wp2_with fail;refine(a4j z wr VZ.1.1 VZ.1.2.1 VZ.1.2.2 VZ.2).mono ?_;rintro e w8 ⟨y2,g2,d2,ar2,kr2,ac2,kc2,ag2,kg2,he,st,ha,x8⟩;have e2:=uH he;subst e2;have PL:=uU (show p4<wr.heap.size from h4w);have NF8:=uU (NF.ext x8);have XZ:=uU (XW.trans x8);have B8:=uU (B4.ext x8);have ST:=uU (a0t SZ st);clear he st x8 e0 e1 e3 e4 e5 e6 e7 e8 e9 e10 e11 e12 e13 e14 h4w B4 NF XW VZ SZ;obtain⟨⟨e0,e1,e2,e3,e4,e5,e6,e7,e8,e9,e10,e11,e12⟩,e13,e14⟩:=uH B8;have h4w:p4<w8.heap.size:=uL e0;have nf:∀j,w8.frozen? ⟨p4,j,none⟩=false:=NF8.2;go_wp2_with fail;obtain⟨W8,hW8⟩:∃W,W=a7n w8 p4 y2 g2 d2 (.slice ar2 y2.regs.length kr2) (.slice ac2 y2.cells.length kc2) (.slice ag2 y2.gray.length kg2):=⟨_,rfl⟩;have hW9:=hW8;unfold a7n at hW9;rw[<-hW9];have Z:=uU (c0w B8 NF8 XZ P4 PL ha hW8);clear hW8 hW9 B8 NF8 XZ ha e0 e1 e2 e3 e4 e5 e6 e7 e8 e9 e10 e11 e12 e13 e14 h4w nf;go_wp2_with fail;go_roundw
       ·exact⟨n-1,y2,g2,d2,ar2,kr2,ac2,kc2,ag2,kg2,by go_num,b2m MU GO ST.2.2.2,ST.2.2.1,Z.1,Z.2.1,Z.2.2.1,Z.2.2.2⟩
       ·have:=b2m MU GO ST.2.2.2;simp [intOf];omega
      ·have hg3:¬(g:Int)=0:=by omega
       have hg2:decide ((g:Int)=0)=false:=by simpa using hg
       clear hz;go_wp2_with fail;refine(a4j z wr VZ.1.1 VZ.1.2.1 VZ.1.2.2 VZ.2).mono ?_;rintro e w8 ⟨y2,g2,d2,ar2,kr2,ac2,kc2,ag2,kg2,he,st,ha,x8⟩;have e2:=uH he;subst e2;have PL:=uU (show p4<wr.heap.size from h4w);have NF8:=uU (NF.ext x8);have XZ:=uU (XW.trans x8);have B8:=uU (B4.ext x8);have ST:=uU (a0t SZ st);clear he st x8 e0 e1 e3 e4 e5 e6 e7 e8 e9 e10 e11 e12 e13 e14 h4w B4 NF XW VZ SZ;obtain⟨⟨e0,e1,e2,e3,e4,e5,e6,e7,e8,e9,e10,e11,e12⟩,e13,e14⟩:=uH B8;have h4w:p4<w8.heap.size:=uL e0;have nf:∀j,w8.frozen? ⟨p4,j,none⟩=false:=NF8.2;go_wp2_with fail;obtain⟨W8,hW8⟩:∃W,W=a7n w8 p4 y2 g2 d2 (.slice ar2 y2.regs.length kr2) (.slice ac2 y2.cells.length kc2) (.slice ag2 y2.gray.length kg2):=⟨_,rfl⟩;have hW9:=hW8;unfold a7n at hW9;rw[<-hW9];have Z:=uU (c0w B8 NF8 XZ P4 PL ha hW8);clear hW8 hW9 B8 NF8 XZ ha e0 e1 e2 e3 e4 e5 e6 e7 e8 e9 e10 e11 e12 e13 e14 h4w nf;go_wp2_with fail;go_roundw
       ·exact⟨n-1,y2,g2,d2,ar2,kr2,ac2,kc2,ag2,kg2,by go_num,b2m MU GO ST.2.2.2,ST.2.2.1,Z.1,Z.2.1,Z.2.2.1,Z.2.2.2⟩
       ·have:=b2m MU GO ST.2.2.2;simp [intOf];omega
end Go.Proofs.YtddkhnclmeikfaaGreat
