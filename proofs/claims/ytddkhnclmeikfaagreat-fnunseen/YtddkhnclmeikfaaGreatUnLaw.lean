import Derived.Test.YtddkhnclmeikfaaGreatLiveI
import Derived.Test.YtddkhnclmeikfaaGreatTc
import Derived.Test.YtddkhnclmeikfaaGreatSh3
import Derived.Test.YtddkhnclmeikfaaGreatUnB
import Derived.Test.YtddkhnclmeikfaaGreatGi
set_option maxRecDepth 100000
set_option maxHeartbeats 4000000
namespace Go.Proofs.YtddkhnclmeikfaaGreat
open Go.RowKit Go.Proofs.Tryz
attribute [local go_sem ↓] Go.wp_at_zero Go.wp_at_succ
variable{w w':World}{ar ac ag:Option Addr}{kr kc kg B:Nat}{x:Hp}
structure He where
 z:Hp
 ar:Option Addr
 kr:Nat
 ac:Option Addr
 kc:Nat
 ag:Option Addr
 kg:Nat
def fH(e:He):List Value:=[iv e.z.M,iv e.z.K,iv e.z.born,.slice e.ar e.z.B.length e.kr,.slice e.ac e.z.A.length e.kc,iv e.z.E,iv e.z.I,iv e.z.sub,.slice e.ag e.z.D.length e.kg,iv e.z.per,iv e.z.V,iv e.z.Q,iv e.z.S]
structure HL(R:List Wd)(L:List Nd)(l c:Nat)(B:Nat)(w:World)(v:Value)(hs:List He):Prop where
 ow:w.ownsRow B 34 13 v hs.length (hs.flatMap fH)
 ok:∀e,e∈hs->HV w e.z e.ar e.kr e.ac e.kc e.ag e.kg/\Sam R L l c e.z
 n:hs.length<=4
theorem field_h(a b c d e f g h i j k l m n:Value)(w:World):Sem.run prog (Instr.field 56 (.agg #[a,b,c,d,e,f,g,h,i,j,k,l,m,n]) 0) w=.ok (.agg #[a,b,c,d,e,f,g,h,i,j,k,l,m]) w:=by kernel_rfl
theorem HV.ext(h:HV w x ar kr ac kc ag kg)(e:Ext w w'):HV w' x ar kr ac kc ag kg:=⟨h.1.ext e,h.2.extS h.1.2.1 e⟩
theorem HA.hv{U:Nat}{y:Hp}(h:HA B U w y ar kr ac kc ag kg):HV w y ar kr ac kc ag kg:=by
 refine⟨h.rd,?_⟩;rcases h with⟨rfl,rfl,rfl,rfl,rfl,rfl,rfl⟩ | ⟨br,bc,bg,pb,pa,pk,rfl,rfl,rfl,h⟩
 ·intro i hi;simp [Hp0] at hi
 ·intro i hi b2 oc ad l c ha hc;simp only [Option.some.injEq,Addr.mk.injEq] at ha;obtain⟨rfl,rfl,_⟩:=ha;rw[Nat.zero_add,h.p7 i hi] at hc;simp only [Option.some.injEq,Value.slice.injEq] at hc;obtain⟨_,rfl,rfl⟩:=hc;exact .inl (h.k i hi)
theorem HV.cell(h:HV w x ar kr ac kc ag kg)(k:Nat)(hk:k<x.A.length):∃b o,ac=some ⟨b,o,none⟩/\w.cell? ⟨b,o+k*8,none⟩=some (iv (x.c k).st):=by
 obtain⟨ad,cap,e,_,hx⟩:=h.1.2.1;obtain⟨b,o,ha,vp,p0,_⟩:=hx k hk;rw[Hp.c_eq x k hk] at p0;simp only [Value.slice.injEq] at e;exact⟨b,o,e.1.trans ha,p0⟩
theorem HL.ext{R:List Wd}{L:List Nd}{l c:Nat}{v:Value}{hs:List He}(h:HL R L l c B w v hs)(e:Ext w w'):HL R L l c B w' v hs:=
 ⟨uN h.ow (λq hq=>e.block q (h.ow.lt q hq).2),λa ha=>⟨(h.ok a ha).1.ext e,(h.ok a ha).2⟩,h.n⟩
theorem infoH:(prog.info? 34).map (λi=>(i.zero,i.size,i.bytes))=some (some (.agg #[iv 0,iv 0,iv 0,.slice none 0 0,.slice none 0 0,iv 0,iv 0,iv 0,.slice none 0 0,iv 0,iv 0,iv 0,iv 0]),13,152):=by kernel_rfl
theorem ByAt.ext{u:Value}(h:ByAt w u)(e:Ext w w'):ByAt w' u:=by
 obtain⟨a,n,k,h1,h2,h3⟩:=h;exact⟨a,n,k,h1,h2,λi hi=>by obtain⟨b,o,z,q1,q2,q3⟩:=h3 i hi;exact⟨b,o,z,q1,e.keep q2,q3⟩⟩
theorem c0c(w:World)(u u2:Value)(hu:ByAt w u)(hu2:ByAt w u2):
  Calls prog 4 #[u,u2] w λe w'=>e=.returned (.bool true)/\Ext w w':=by
 have QG:=uU (c9h w u hu);have HU:=uU hu2;obtain⟨au,nu,ku,rfl,hnu,_⟩:=hu;obtain⟨au2,nu2,ku2,rfl,hnu2,_⟩:=hu2;have hn1:¬((nu:Int) > 1048576):=by omega
 have hn2:¬((nu2:Int) > 1048576):=by omega
 go_enter func4,ntmps4;go_wp2_with fail;refine QG.mono ?_;rintro e w1 ⟨x,ar0,kr0,ac0,kc0,ag0,kg0,he,S,V1,x1⟩;have e2:=uH he;subst e2;clear he QG;obtain⟨W1,hW1⟩:∃W,W=w1.alloc (.cells #[iv x.M,iv x.K,iv x.born,.slice ar0 x.B.length kr0,.slice ac0 x.A.length kc0,iv x.E,iv x.I,iv x.sub,.slice ag0 x.D.length kg0,iv x.per,iv x.V,iv x.Q,iv x.S] 34):=⟨_,rfl⟩;have BX:=uU (dK.new w1 x (.slice ar0 x.B.length kr0) (.slice ac0 x.A.length kc0) (.slice ag0 x.D.length kg0) 34);have XA:Ext w1 W1:=by rw[hW1];exact(Ext.refl _).alloc _
 go_wp2_with fail;rw[<-hW1] at BX ⊢;obtain⟨p,hp⟩:∃p,p=w1.heap.size:=⟨_,rfl⟩;rw[<-hp] at BX ⊢;have XW:=uU (x1.trans XA);have VX:=uU (V1.ext XA);clear hW1 XA x1 V1 hp;refine(a9f x W1 VX.1.1 VX.1.2.1 VX.1.2.2 VX.2).mono ?_;rintro e w2 ⟨vr,vn,he,ia,q2⟩;have e2:=uH he;subst e2;obtain⟨R,L,lv,ct,sam⟩:=Sam.first S ia;have GO:=sam.rd ia;obtain⟨r,rc,rfl,_,_⟩:=id GO.1;obtain⟨s,sc,rfl,_,_⟩:=id GO.2;have SM:=uU sam;have GR:=uU GO;have BX:=uU (BX.ext q2);obtain⟨t0,t1,t2,t3,t4,t5,t6,t7,t8,t9,t10,t11,t12⟩:=uH BX;have hp2:p<w2.heap.size:=uL t0;clear he ia GO sam S;go_wp2_with fail;obtain⟨W3,hW3⟩:∃W,W=w2.alloc (.cells #[.slice r R.length rc,.slice s L.length sc] 44):=⟨_,rfl⟩;have x23:Ext w2 W3:=by rw[hW3];exact(Ext.refl _).alloc _
 have g0:W3.cell? ⟨w2.heap.size,0,none⟩=some (.slice r R.length rc):=by rw[hW3];simp [go_sem]
 have g1:W3.cell? ⟨w2.heap.size,1,none⟩=some (.slice s L.length sc):=by rw[hW3];simp [go_sem]
 obtain⟨pg,hpg⟩:∃p,p=w2.heap.size:=⟨_,rfl⟩;rw[<-hpg] at g0 g1 ⊢;rw[<-hW3];have BX:=uU (BX.ext x23);have VX:=uU (VX.ext (q2.trans x23));have XW:=uU (XW.trans (q2.trans x23));have GR:=uU (And.intro (SlW.ext x23 GR.1) (SlN.ext x23 GR.2));clear hW3 hpg x23 q2 t0 t1 t2 t3 t4 t5 t6 t7 t8 t9 t10 t11 t12 hp2;refine(b1e x W3 VX.1.1 VX.1.2.1 VX.1.2.2 VX.2).mono ?_;rintro e w4 ⟨l4,he,li,q4⟩;have e2:=uH he;subst e2;have e3:=li.uniq SM.l;subst e3;have BX:=uU (BX.ext q4);obtain⟨t0,t1,t2,t3,t4,t5,t6,t7,t8,t9,t10,t11,t12⟩:=uH BX;have hp4:p<w4.heap.size:=uL t0;clear he li;go_wp2_with fail;refine(a6u x w4 (VX.ext q4).1.1 (VX.ext q4).1.2.1 (VX.ext q4).1.2.2 (VX.ext q4).2).mono ?_;rintro e w5 ⟨c5,he,ci,q5⟩;have e2:=uH he;subst e2;have e3:=ci.uniq SM.c;subst e3;have BX:=uU (BX.ext q5);have q45:=q4.trans q5;have g0:=q45.keep g0;have g1:=q45.keep g1;have VX:=uU (VX.ext q45);have XW:=uU (XW.trans q45);have GR:=uU (And.intro (SlW.ext q45 GR.1) (SlN.ext q45 GR.2));clear he ci q4 q5 q45 t0 t1 t2 t3 t4 t5 t6 t7 t8 t9 t10 t11 t12 hp4;obtain⟨t0,t1,t2,t3,t4,t5,t6,t7,t8,t9,t10,t11,t12⟩:=uH BX;have hp5:p<w5.heap.size:=uL t0;have hg5:pg<w5.heap.size:=uL g0
 go_upto_region 7 with(fail)
 have KP:=uU (λ(W:World) (e:Ext w5 W)=>(show W.cell? ⟨p,0,none⟩=some (iv x.M)/\W.cell? ⟨p,1,none⟩=some (iv x.K)/\W.cell? ⟨p,2,none⟩=some (iv x.born)/\W.cell? ⟨p,3,none⟩=some (.slice ar0 x.B.length kr0)/\W.cell? ⟨p,4,none⟩=some (.slice ac0 x.A.length kc0)/\W.cell? ⟨p,5,none⟩=some (iv x.E)/\W.cell? ⟨p,6,none⟩=some (iv x.I)/\W.cell? ⟨p,7,none⟩=some (iv x.sub)/\W.cell? ⟨p,8,none⟩=some (.slice ag0 x.D.length kg0)/\W.cell? ⟨p,9,none⟩=some (iv x.per)/\W.cell? ⟨p,10,none⟩=some (iv x.V)/\W.cell? ⟨p,11,none⟩=some (iv x.Q)/\W.cell? ⟨p,12,none⟩=some (iv x.S)/\W.cell? ⟨pg,0,none⟩=some (.slice r R.length rc)/\W.cell? ⟨pg,1,none⟩=some (.slice s L.length sc) from⟨e.keep t0,e.keep t1,e.keep t2,e.keep t3,e.keep t4,e.keep t5,e.keep t6,e.keep t7,e.keep t8,e.keep t9,e.keep t10,e.keep t11,e.keep t12,e.keep g0,e.keep g1⟩));have QS:=uU (λ(W:World) (e:Ext w5 W)=>b7g x W (VX.ext e).1.1 (VX.ext e).1.2.1 (VX.ext e).1.2.2);have QL:=uU (λ(W:World) (e:Ext w5 W)=>b9c x W (VX.ext e).1.1 (VX.ext e).1.2.1 (VX.ext e).1.2.2);have QC:=uU (λ(W:World) (e:Ext w5 W)=>b3x x W (VX.ext e).1.1 (VX.ext e).1.2.1 (VX.ext e).1.2.2);have hcl:¬((c5:Int) > (l4:Int)):=by have:=cnt_le SM.s SM.c SM.l;omega
 clear t0 t1 t2 t3 t4 t5 t6 t7 t8 t9 t10 t11 t12 g0 g1
 go_region_held3 (λW=>W.cell? ⟨p,0,none⟩=some (iv x.M)/\W.cell? ⟨p,1,none⟩=some (iv x.K)/\W.cell? ⟨p,2,none⟩=some (iv x.born)/\W.cell? ⟨p,3,none⟩=some (.slice ar0 x.B.length kr0)/\W.cell? ⟨p,4,none⟩=some (.slice ac0 x.A.length kc0)/\W.cell? ⟨p,5,none⟩=some (iv x.E)/\W.cell? ⟨p,6,none⟩=some (iv x.I)/\W.cell? ⟨p,7,none⟩=some (iv x.sub)/\W.cell? ⟨p,8,none⟩=some (.slice ag0 x.D.length kg0)/\W.cell? ⟨p,9,none⟩=some (iv x.per)/\W.cell? ⟨p,10,none⟩=some (iv x.V)/\W.cell? ⟨p,11,none⟩=some (iv x.Q)/\W.cell? ⟨p,12,none⟩=some (iv x.S)/\W.cell? ⟨pg,0,none⟩=some (.slice r R.length rc)/\W.cell? ⟨pg,1,none⟩=some (.slice s L.length sc)) ((with_reducible refine uH KP _ ?_;with_reducible (first | exact Ext.refl _ | assumption | (refine Ext.drew ?_;first | exact Ext.refl _ | assumption))))
  (first
   | (go_at_call 26;refine(QS _ (by first | exact Ext.refl _ | exact(Ext.refl w5).drew | assumption)).mono ?_;rintro e wn ⟨vr6,vn6,he,sa,xn⟩;have e2:=uH he;subst e2;have GS:=SM.rdS sa;obtain⟨r6,rc6,rfl,_,_⟩:=id GS.1;obtain⟨s6,sc6,rfl,_,_⟩:=id GS.2;have xn3:Ext w5 wn:=(by first | exact xn | exact Ext.trans (Ext.refl w5).drew xn);have GS6:=uU GS;clear xn he sa GS)
   | (go_at_call 20;refine(b3q R L _ _ _ _ _ _ _ _ wn (SlW.ext xn3 GR.1) GS6.1 (SlN.ext xn3 GR.2) GS6.2).mono ?_;rintro e wm ⟨rfl,xm⟩;have xm3:Ext w5 wm:=xn3.trans xm;clear xm)
   | (go_at_call 27;refine(QL _ (by assumption)).mono ?_;rintro e wl ⟨l7,he,li,xl⟩;have e2:=uH he;subst e2;have e3:=li.uniq SM.l;subst e3;have xl3:Ext w5 wl:=Ext.trans (by assumption) xl;clear xl he li)
   | (go_at_call 28;refine(QC _ (by assumption)).mono ?_;rintro e wc ⟨c7,he,ci,xc⟩;have e2:=uH he;subst e2;have e3:=ci.uniq SM.c;subst e3;have xc3:Ext w5 wc:=Ext.trans (by assumption) xc;clear xc he ci))
 have XC:=uU (XW.trans xc3);have VX:=uU (VX.ext xc3);have BX:=uU (BX.ext xc3);have GR:=uU (And.intro (SlW.ext xc3 GR.1) (SlN.ext xc3 GR.2));have gg:=(KP _ xc3).2.2.2.2.2.2.2.2.2.2.2.2.2;have HU:=uU (HU.ext XC);clear KP QS QL QC XW xn3 xm3 xl3 xc3 GS6;obtain⟨t0,t1,t2,t3,t4,t5,t6,t7,t8,t9,t10,t11,t12⟩:=uH BX;obtain⟨g0,g1⟩:=gg;have hpc:p<wc.heap.size:=uL t0;have hgc:pg<wc.heap.size:=uL g0;go_wp2_with fail;refine(b1p wc _ 0 (by omega) HU).mono ?_;rintro e wz ⟨b0,he,b00,b01,rfl⟩;have e2:=uH he;subst e2;go_wp2_with fail;refine(b1p wz _ 1 (by omega) HU).mono ?_;rintro e wc ⟨b1,he,b10,b11,rfl⟩;have e2:=uH he;subst e2
 go_upto_region 10 with(fail)
 have KP:=uU (λ(W:World) (e:Ext wc W)=>(show W.cell? ⟨p,0,none⟩=some (iv x.M)/\W.cell? ⟨p,1,none⟩=some (iv x.K)/\W.cell? ⟨p,2,none⟩=some (iv x.born)/\W.cell? ⟨p,3,none⟩=some (.slice ar0 x.B.length kr0)/\W.cell? ⟨p,4,none⟩=some (.slice ac0 x.A.length kc0)/\W.cell? ⟨p,5,none⟩=some (iv x.E)/\W.cell? ⟨p,6,none⟩=some (iv x.I)/\W.cell? ⟨p,7,none⟩=some (iv x.sub)/\W.cell? ⟨p,8,none⟩=some (.slice ag0 x.D.length kg0)/\W.cell? ⟨p,9,none⟩=some (iv x.per)/\W.cell? ⟨p,10,none⟩=some (iv x.V)/\W.cell? ⟨p,11,none⟩=some (iv x.Q)/\W.cell? ⟨p,12,none⟩=some (iv x.S) from⟨e.keep t0,e.keep t1,e.keep t2,e.keep t3,e.keep t4,e.keep t5,e.keep t6,e.keep t7,e.keep t8,e.keep t9,e.keep t10,e.keep t11,e.keep t12⟩));obtain⟨nn,hnn⟩:∃n:Int,n=b0+7*b1:=⟨_,rfl⟩;have QT:=uU (λ(n:Int) (W:World) (e:Ext wc W)=>c0b x n W (VX.ext e).1.1 (VX.ext e).1.2.1 (VX.ext e).1.2.2 (VX.ext e).2);have QR:=uU (λ(W:World) (e:Ext wc W)=>b7h x W (VX.ext e).1.1 (VX.ext e).1.2.1 (VX.ext e).1.2.2 (VX.ext e).2);have hfl:=field_h;have n0:0<=nn:=by omega
 have n1:nn<=100000:=by omega
 rw[<-hnn];clear hnn b00 b01 b10 b11 he t0 t1 t2 t3 t4 t5 t6 t7 t8 t9 t10 t11 t12
 go_region_held3 (λW=>W.cell? ⟨p,0,none⟩=some (iv x.M)/\W.cell? ⟨p,1,none⟩=some (iv x.K)/\W.cell? ⟨p,2,none⟩=some (iv x.born)/\W.cell? ⟨p,3,none⟩=some (.slice ar0 x.B.length kr0)/\W.cell? ⟨p,4,none⟩=some (.slice ac0 x.A.length kc0)/\W.cell? ⟨p,5,none⟩=some (iv x.E)/\W.cell? ⟨p,6,none⟩=some (iv x.I)/\W.cell? ⟨p,7,none⟩=some (iv x.sub)/\W.cell? ⟨p,8,none⟩=some (.slice ag0 x.D.length kg0)/\W.cell? ⟨p,9,none⟩=some (iv x.per)/\W.cell? ⟨p,10,none⟩=some (iv x.V)/\W.cell? ⟨p,11,none⟩=some (iv x.Q)/\W.cell? ⟨p,12,none⟩=some (iv x.S)) ((with_reducible refine uH KP _ ?_;with_reducible (first | exact Ext.refl _ | assumption | (refine Ext.drew ?_;first | exact Ext.refl _ | assumption) | (refine Ext.alloc ?_ _;assumption) | (refine Ext.drew (Ext.alloc ?_ _);assumption) | (refine Ext.alloc (Ext.drew ?_) _;assumption))))
  (first
   | (go_at_call 30;have chk:=uH SB;clear chk;refine(QT 1 _ (by first | exact Ext.refl _ | exact(Ext.refl wc).drew | assumption)).mono ?_;rintro e wd ⟨yd,kd,ard,krd,acd,kcd,agd,kgd,he,st,hd,xd⟩;have e2:e=.returned (.agg #[iv yd.M,iv yd.K,iv yd.born,.slice ard yd.B.length krd,.slice acd yd.A.length kcd,iv yd.E,iv yd.I,iv yd.sub,.slice agd yd.D.length kgd,iv yd.per,iv yd.V,iv yd.Q,iv yd.S,iv kd]):=uH he;subst e2;have xbd:Ext wb wd:=(by first | exact xd | exact Ext.trans (Ext.refl wb).drew xd);have xd3:Ext wc wd:=xb3.trans xbd;have SD:=uU (And.intro (SM.step (by omega) (by omega) st) hd.hv);clear xd he st hd)
   | (go_at_call 30;refine(QT nn _ (by first | exact Ext.refl _ | exact(Ext.refl wc).drew | assumption)).mono ?_;rintro e wa ⟨ya,ka,ara,kra,aca,kca,aga,kga,he,st,ha,xa⟩;have e2:e=.returned (.agg #[iv ya.M,iv ya.K,iv ya.born,.slice ara ya.B.length kra,.slice aca ya.A.length kca,iv ya.E,iv ya.I,iv ya.sub,.slice aga ya.D.length kga,iv ya.per,iv ya.V,iv ya.Q,iv ya.S,iv ka]):=uH he;subst e2;have xa3:Ext wc wa:=(by first | exact xa | exact Ext.trans (Ext.refl wc).drew xa | exact Ext.trans (by assumption) xa);have SA:=uU (And.intro (SM.step n0 n1 st) ha.hv);clear xa he st ha)
   | (go_at_call 31;refine(QR _ (by first | exact Ext.refl _ | exact(Ext.refl wc).drew | assumption)).mono ?_;rintro e wb ⟨yb,arb,krb,acb,kcb,agb,kgb,he,ro,hb,xb⟩;have e2:=uH he;subst e2;have xab:Ext wa wb:=(by first | exact xb | exact Ext.trans (Ext.refl wa).drew xb);have xb3:Ext wc wb:=xa3.trans xab;have SB:=uU (And.intro (SM.round ro) hb.hv);clear xb he ro hb))
 obtain⟨W10,hW10⟩:∃W,W=wd.alloc (.cells #[iv ya.M,iv ya.K,iv ya.born,.slice ara ya.B.length kra,.slice aca ya.A.length kca,iv ya.E,iv ya.I,iv ya.sub,.slice aga ya.D.length kga,iv ya.per,iv ya.V,iv ya.Q,iv ya.S,iv yb.M,iv yb.K,iv yb.born,.slice arb yb.B.length krb,.slice acb yb.A.length kcb,iv yb.E,iv yb.I,iv yb.sub,.slice agb yb.D.length kgb,iv yb.per,iv yb.V,iv yb.Q,iv yb.S,iv yd.M,iv yd.K,iv yd.born,.slice ard yd.B.length krd,.slice acd yd.A.length kcd,iv yd.E,iv yd.I,iv yd.sub,.slice agd yd.D.length kgd,iv yd.per,iv yd.V,iv yd.Q,iv yd.S] 34):=⟨_,rfl⟩;have xdW:Ext wd W10:=by rw[hW10];exact(Ext.refl _).alloc _
 have HL0:=uU (show HL R L l7 c7 wd.heap.size W10 (.slice (some ⟨wd.heap.size,0,none⟩) 3 3) [⟨ya,ara,kra,aca,kca,aga,kga⟩,⟨yb,arb,krb,acb,kcb,agb,kgb⟩,⟨yd,ard,krd,acd,kcd,agd,kgd⟩] from⟨by rw[hW10];exact World.ownsRow_lit wd _ 3 (Nat.le_refl _) (by decide) rfl,λe he=>by
  simp only [List.mem_cons,List.not_mem_nil,or_false] at he;rcases he with rfl | rfl | rfl
  ·exact⟨SA.2.ext (((xab.trans xbd)).trans xdW),SA.1⟩
  ·exact⟨SB.2.ext (xbd.trans xdW),SB.1⟩
  ·exact⟨SD.2.ext xdW,SD.1⟩,by simp⟩)
 have XCd:=uU (XC.trans xd3);have GRd:=uU (And.intro (SlW.ext xd3 GR.1) (SlN.ext xd3 GR.2));have gd0:=xd3.keep g0;have gd1:=xd3.keep g1;have XD:=uU xdW
 have HD:=uU (show ∀e,e∈[(⟨ya,ara,kra,aca,kca,aga,kga⟩:He),⟨yb,arb,krb,acb,kcb,agb,kgb⟩,⟨yd,ard,krd,acd,kcd,agd,kgd⟩]->HV wd e.z e.ar e.kr e.ac e.kc e.ag e.kg from λe he=>by
  simp only [List.mem_cons,List.not_mem_nil,or_false] at he;rcases he with rfl | rfl | rfl
  ·exact SA.2.ext (xab.trans xbd)
  ·exact SB.2.ext xbd
  ·exact SD.2)
 have HSm:=uU HL0.ok;have XC:=uU (XC.trans (xd3.trans xdW));have VX:=uU (VX.ext (xd3.trans xdW));have BX:=uU (BX.ext (xd3.trans xdW));have GR:=uU (And.intro (SlW.ext (xd3.trans xdW) GR.1) (SlN.ext (xd3.trans xdW) GR.2));have g0:=(xd3.trans xdW).keep g0;have g1:=(xd3.trans xdW).keep g1;have HU:=uU (HU.ext (xd3.trans xdW));obtain⟨g,hg⟩:∃g,g=wd.heap.size:=⟨_,rfl⟩;have hgW:g<=W10.heap.size:=by rw[hg];exact xdW.size
 rw[<-hW10];have HG:=uU hg;rw[<-hg] at HL0 ⊢;clear hW10 hg KP QT QR SA SB SD xa3 xab xb3 xbd xd3 xdW hfl;obtain⟨t0,t1,t2,t3,t4,t5,t6,t7,t8,t9,t10,t11,t12⟩:=uH BX;have hpW:p<W10.heap.size:=uL t0;have hgW2:pg<W10.heap.size:=uL g0
 go_upto_if 71 with(fail)
 go_cut [10] (λs wx=>∃hs,Hid (HL R L l7 c7 g wx s hs)/\Hid (Ext wd wx))
 case first=>
  by_cases hz:(x.A.length:Int) > 0
  ·obtain⟨nc,hnc⟩:∃n,n=x.A.length:=⟨_,rfl⟩;have HN:=uU hnc;rw[<-hnc] at t4 hz ⊢;clear hnc;have hz0:((nc:Int) == 0)=false:=by rw[beq_eq_false_iff_ne];omega
   go_upto_region 12 with(fail)
   go_cut [11] (λs wx=>∃i:Nat,i<nc/\s=.int .i64 i/\Hid (Ext W10 wx))
   case first=>
    go_region_with (go_at_call 29;refine(b1p _ (.slice au2 nu2 ku2) 2 (by omega) (HU.ext (by first | exact Ext.refl _ | exact(Ext.refl W10).drew | exact(Ext.refl W10).drew.drew))).mono ?_;rintro e wz ⟨b2,he,b20,b21,hw⟩;have e2:=uH he;subst e2;subst hw;obtain⟨i2,hi2⟩:∃i:Nat,b2=i:=⟨b2.toNat,by omega⟩;subst hi2;clear he)
    all_goals
     go_wp2_with fail;go_meet;exact⟨i2 % nc,Nat.mod_lt _ (by omega),by simp,(Ext.refl _).drew⟩
   case rest=>
    obtain⟨i,hi,rfl,X1⟩:=hcut;have hi2:i<x.A.length:=by rw[<-uH HN];exact hi
    have VX1:=uU (VX.ext X1);obtain⟨bc,oc,rfl,p0⟩:=VX1.cell i hi2;have BX1:=uU (BX.ext X1);have HL1:=uU (HL0.ext X1);have i0:(0:Int)<=(i:Int):=by omega
    have i1:(i:Int)<(nc:Int):=by omega
    clear t0 t1 t2 t3 t4 t5 t6 t7 t8 t9 t10 t11 t12 hpW;obtain⟨t0,t1,t2,t3,t4,t5,t6,t7,t8,t9,t10,t11,t12⟩:=uH BX1;have hpW:p<wc.heap.size:=uL t0;have hbc:bc<wc.heap.size:=uL p0;rw[<-uH HN] at t4;by_cases hst:(x.c i).st=1
    ·have hsb:((x.c i).st == 1)=true:=by simp [hst]
     go_wp2_with fail;have QH:=uU (b7i x (i:Int) wc VX1.1.1 VX1.1.2.1 VX1.1.2.2 VX1.2);rw[<-uH HN] at QH;refine QH.mono ?_;rintro e we ⟨y,ary,kry,acy,kcy,agy,kgy,he,sh,hy,xe⟩;have e2:e=.returned (.agg #[iv y.M,iv y.K,iv y.born,.slice ary y.B.length kry,.slice acy y.A.length kcy,iv y.E,iv y.I,iv y.sub,.slice agy y.D.length kgy,iv y.per,iv y.V,iv y.Q,iv y.S]):=uH he;subst e2;have SY:=uU (SM.shade hi2 hst sh);have HY:=uU hy;have hgc:g<wc.heap.size:=by have:=HL1.ow.lt g rfl;omega
     have HL2:=uU (HL1.ext xe);have XE:=uU (X1.trans xe);obtain⟨f0,hf0,hz0',hz1',hz2'⟩:=info_parts infoH;have hge:g<=we.heap.size:=Nat.le_trans hgW XE.size;clear he sh hy xe QH t0 t1 t2 t3 t4 t5 t6 t7 t8 t9 t10 t11 t12 p0 hz hz0 hsb;go_wp2_with (at_builtin;refine wpList_append_lies _ rfl _ _ 59 rfl g 34 f0 (.agg #[iv 0,iv 0,iv 0,.slice none 0 0,.slice none 0 0,iv 0,iv 0,iv 0,.slice none 0 0,iv 0,iv 0,iv 0,iv 0]) 13 152 underlying59 hf0 hz0' hz1' hz2' rfl (by decide) _ 3 _ rfl (HL2.ow.alloc _) _ 1 1 [iv y.M,iv y.K,iv y.born,.slice ary y.B.length kry,.slice acy y.A.length kcy,iv y.E,iv y.I,iv y.sub,.slice agy y.D.length kgy,iv y.per,iv y.V,iv y.Q,iv y.S] rfl rfl ?c1 ?c2 (by decide) ?c3 ?c4 ?c5 _ rfl ?_)
     case c1=>
      intro q u hk
      match q,hk with
      | 0,hk=>simp at hk;subst hk;simp [Addr.add,go_sem]
      | 1,hk=>simp at hk;subst hk;simp [Addr.add,go_sem]
      | 2,hk=>simp at hk;subst hk;simp [Addr.add,go_sem]
      | 3,hk=>simp at hk;subst hk;simp [Addr.add,go_sem]
      | 4,hk=>simp at hk;subst hk;simp [Addr.add,go_sem]
      | 5,hk=>simp at hk;subst hk;simp [Addr.add,go_sem]
      | 6,hk=>simp at hk;subst hk;simp [Addr.add,go_sem]
      | 7,hk=>simp at hk;subst hk;simp [Addr.add,go_sem]
      | 8,hk=>simp at hk;subst hk;simp [Addr.add,go_sem]
      | 9,hk=>simp at hk;subst hk;simp [Addr.add,go_sem]
      | 10,hk=>simp at hk;subst hk;simp [Addr.add,go_sem]
      | 11,hk=>simp at hk;subst hk;simp [Addr.add,go_sem]
      | 12,hk=>simp at hk;subst hk;simp [Addr.add,go_sem]
      | q+13,hk=>simp at hk
     case c2=>intro u hu;simp at hu;rcases hu with e | e | e | e | e | e | e | e | e | e | e | e | e <;> subst e <;> rfl
     case c3=>unfold maxLen;omega
     case c4=>omega
     case c5=>simp;omega
     intro g' cap' w2 how hgr hat hlt2;have xw2:Ext wd w2:=a2g ((XD.trans XE).trans ((Ext.refl we).alloc _)) (HL2.ow.alloc _) (Nat.le_of_eq HG.symm) hgr
     have PU:=uU (show HL R L l7 c7 g w2 (.slice (some ⟨g',0,none⟩) 4 cap') [⟨ya,ara,kra,aca,kca,aga,kga⟩,⟨yb,arb,krb,acb,kcb,agb,kgb⟩,⟨yd,ard,krd,acd,kcd,agd,kgd⟩,⟨y,ary,kry,acy,kcy,agy,kgy⟩] from⟨how,λe he=>by
      by_cases q:e∈[(⟨ya,ara,kra,aca,kca,aga,kga⟩:He),⟨yb,arb,krb,acb,kcb,agb,kgb⟩,⟨yd,ard,krd,acd,kcd,agd,kgd⟩]
      ·exact⟨(HD e q).ext xw2,(HSm e q).2⟩
      ·have:e=⟨y,ary,kry,acy,kcy,agy,kgy⟩:=by
        simp only [List.mem_cons,List.not_mem_nil,or_false] at he q;rcases he with h | h | h | h
        ·exact(q (.inl h)).elim
        ·exact(q (.inr (.inl h))).elim
        ·exact(q (.inr (.inr h))).elim
        ·exact h
       subst this;exact⟨((HY.ext ((Ext.refl we).alloc _)).only (S:=λq=>q=g) ⟨hgr.os,hgr.tape,hgr.output,hgr.size,λq hq hs=>hgr.block q hq (λe=>hs (by simpa [Value.ownBlock] using e))⟩ (λq h1 h2 e=>by omega)).hv,SY⟩,by simp⟩)
     clear how hgr hat;go_wp2_with fail;go_meet;exact⟨_,PU,xw2⟩
    ·have hsb:((x.c i).st == 1)=false:=by simp [hst]
     go_wp2_with fail;go_meet;exact⟨_,HL1,XD.trans X1⟩
  ·go_wp2_with fail;go_meet;exact⟨_,HL0,XD⟩
 case rest=>
  obtain⟨hs,hl,hx⟩:=hcut;obtain⟨ad,cap,rfl,_,hcs⟩:=a3u (f:=fH) (λ_=>rfl) hl.ow;have HC:=uU hcs;have g0:=hx.keep gd0;have g1:=hx.keep gd1;have XC:=uU (XCd.trans hx);have GR:=uU (And.intro (SlW.ext hx GRd.1) (SlN.ext hx GRd.2));have hn4:=hl.n;clear hcs t0 t1 t2 t3 t4 t5 t6 t7 t8 t9 t10 t11 t12 hpW hgW2 HL0 VX BX HU hx hcl gd0 gd1 HD HSm XD GRd XCd;go_wp2_with fail;go_loopw [93] (λi wr=>∃k:Nat,k<=hs.length/\i=.int .i64 k/\Ext wc wr) (λi _=>hs.length-(intOf i).toNat)
  case atStart=>exact⟨0,Nat.zero_le _,rfl,Ext.refl _⟩
  case round=>
   obtain⟨k,hk,rfl,hbl⟩:=hrel;by_cases hlt:k<hs.length
   ·obtain⟨bl,rfl,_,_,hc⟩:=uH HC k hlt;obtain⟨⟨z,zar,zkr,zac,zkc,zag,zkg⟩,hz⟩:∃e,e=hs[k]:=⟨_,rfl⟩;have OK:=hl.ok _ (List.getElem_mem hlt);rw[<-hz] at hc OK;simp only [Nat.zero_add] at hc;have e0:wr.cell? ⟨bl,k*13,none⟩=some (iv z.M):=hbl.keep (hc 0 (by omega));have e1:wr.cell? ⟨bl,k*13+1,none⟩=some (iv z.K):=hbl.keep (hc 1 (by omega));have e2:wr.cell? ⟨bl,k*13+2,none⟩=some (iv z.born):=hbl.keep (hc 2 (by omega));have e3:wr.cell? ⟨bl,k*13+3,none⟩=some (.slice zar z.B.length zkr):=hbl.keep (hc 3 (by omega));have e4:wr.cell? ⟨bl,k*13+4,none⟩=some (.slice zac z.A.length zkc):=hbl.keep (hc 4 (by omega));have e5:wr.cell? ⟨bl,k*13+5,none⟩=some (iv z.E):=hbl.keep (hc 5 (by omega));have e6:wr.cell? ⟨bl,k*13+6,none⟩=some (iv z.I):=hbl.keep (hc 6 (by omega));have e7:wr.cell? ⟨bl,k*13+7,none⟩=some (iv z.sub):=hbl.keep (hc 7 (by omega));have e8:wr.cell? ⟨bl,k*13+8,none⟩=some (.slice zag z.D.length zkg):=hbl.keep (hc 8 (by omega));have e9:wr.cell? ⟨bl,k*13+9,none⟩=some (iv z.per):=hbl.keep (hc 9 (by omega));have e10:wr.cell? ⟨bl,k*13+10,none⟩=some (iv z.V):=hbl.keep (hc 10 (by omega));have e11:wr.cell? ⟨bl,k*13+11,none⟩=some (iv z.Q):=hbl.keep (hc 11 (by omega));have e12:wr.cell? ⟨bl,k*13+12,none⟩=some (iv z.S):=hbl.keep (hc 12 (by omega));have g0:=hbl.keep g0;have g1:=hbl.keep g1;have GR:=uU (And.intro (SlW.ext hbl GR.1) (SlN.ext hbl GR.2));have VZ:=uU (OK.1.ext hbl);have SZ:=uU OK.2;have hbr:bl<wr.heap.size:=uL e0;have hpr:pg<wr.heap.size:=uL g0;have hk0:(0:Int)<=(k:Int):=by omega
    have hk1:(k:Int)<(hs.length:Int):=by omega
    clear hc hz OK
    go_upto_region 18 with(fail)
    obtain⟨Wq,hWq⟩:∃W,W=wr.alloc (.cells #[iv z.M,iv z.K,iv z.born,.slice zar z.B.length zkr,.slice zac z.A.length zkc,iv z.E,iv z.I,iv z.sub,.slice zag z.D.length zkg,iv z.per,iv z.V,iv z.Q,iv z.S] 34):=⟨_,rfl⟩;have xq:Ext wr Wq:=by rw[hWq];exact(Ext.refl _).alloc _
    obtain⟨q,hq⟩:∃q,q=wr.heap.size:=⟨_,rfl⟩;obtain⟨k0,k1,k2,k3,k4,k5,k6,k7,k8,k9,k10,k11,k12⟩:=(show dK Wq q z (.slice zar z.B.length zkr) (.slice zac z.A.length zkc) (.slice zag z.D.length zkg) by rw[hWq,hq];exact dK.new wr z _ _ _ _);have KP:=uU (λ(W:World) (e:Ext Wq W)=>(show W.cell? ⟨q,0,none⟩=some (iv z.M)/\W.cell? ⟨q,1,none⟩=some (iv z.K)/\W.cell? ⟨q,2,none⟩=some (iv z.born)/\W.cell? ⟨q,3,none⟩=some (.slice zar z.B.length zkr)/\W.cell? ⟨q,4,none⟩=some (.slice zac z.A.length zkc)/\W.cell? ⟨q,5,none⟩=some (iv z.E)/\W.cell? ⟨q,6,none⟩=some (iv z.I)/\W.cell? ⟨q,7,none⟩=some (iv z.sub)/\W.cell? ⟨q,8,none⟩=some (.slice zag z.D.length zkg)/\W.cell? ⟨q,9,none⟩=some (iv z.per)/\W.cell? ⟨q,10,none⟩=some (iv z.V)/\W.cell? ⟨q,11,none⟩=some (iv z.Q)/\W.cell? ⟨q,12,none⟩=some (iv z.S)/\W.cell? ⟨pg,0,none⟩=some (.slice r R.length rc)/\W.cell? ⟨pg,1,none⟩=some (.slice s L.length sc) from⟨e.keep k0,e.keep k1,e.keep k2,e.keep k3,e.keep k4,e.keep k5,e.keep k6,e.keep k7,e.keep k8,e.keep k9,e.keep k10,e.keep k11,e.keep k12,e.keep (xq.keep g0),e.keep (xq.keep g1)⟩));have VZ:=uU (VZ.ext xq);have GR:=uU (And.intro (SlW.ext xq GR.1) (SlN.ext xq GR.2));have QS:=uU (λ(W:World) (e:Ext Wq W)=>a9f z W (VZ.ext e).1.1 (VZ.ext e).1.2.1 (VZ.ext e).1.2.2 (VZ.ext e).2);have QL:=uU (λ(W:World) (e:Ext Wq W)=>b1e z W (VZ.ext e).1.1 (VZ.ext e).1.2.1 (VZ.ext e).1.2.2 (VZ.ext e).2);have QC:=uU (λ(W:World) (e:Ext Wq W)=>a6u z W (VZ.ext e).1.1 (VZ.ext e).1.2.1 (VZ.ext e).1.2.2 (VZ.ext e).2);have xrq:=uU (hbl.trans xq);rw[<-hWq,<-hq];clear hWq hq xq e0 e1 e2 e3 e4 e5 e6 e7 e8 e9 e10 e11 e12 g0 g1 k0 k1 k2 k3 k4 k5 k6 k7 k8 k9 k10 k11 k12 hbl hbr hpr
    go_region_held3 (λW=>W.cell? ⟨q,0,none⟩=some (iv z.M)/\W.cell? ⟨q,1,none⟩=some (iv z.K)/\W.cell? ⟨q,2,none⟩=some (iv z.born)/\W.cell? ⟨q,3,none⟩=some (.slice zar z.B.length zkr)/\W.cell? ⟨q,4,none⟩=some (.slice zac z.A.length zkc)/\W.cell? ⟨q,5,none⟩=some (iv z.E)/\W.cell? ⟨q,6,none⟩=some (iv z.I)/\W.cell? ⟨q,7,none⟩=some (iv z.sub)/\W.cell? ⟨q,8,none⟩=some (.slice zag z.D.length zkg)/\W.cell? ⟨q,9,none⟩=some (iv z.per)/\W.cell? ⟨q,10,none⟩=some (iv z.V)/\W.cell? ⟨q,11,none⟩=some (iv z.Q)/\W.cell? ⟨q,12,none⟩=some (iv z.S)/\W.cell? ⟨pg,0,none⟩=some (.slice r R.length rc)/\W.cell? ⟨pg,1,none⟩=some (.slice s L.length sc)) ((with_reducible refine uH KP _ ?_;with_reducible (first | exact Ext.refl _ | assumption | (refine Ext.drew ?_;first | exact Ext.refl _ | assumption))))
     (first
      | (go_at_call 21;refine(QS _ (by first | exact Ext.refl _ | exact(Ext.refl Wq).drew | assumption)).mono ?_;rintro e wn ⟨vr6,vn6,he,ia,xn⟩;have e2:=uH he;subst e2;have GS:=SZ.rd ia;obtain⟨r6,rc6,rfl,_,_⟩:=id GS.1;obtain⟨s6,sc6,rfl,_,_⟩:=id GS.2;have xn3:Ext Wq wn:=(by first | exact xn | exact Ext.trans (Ext.refl Wq).drew xn);have GS6:=uU GS;clear xn he ia GS)
      | (go_at_call 20;refine(b3q R L _ _ _ _ _ _ _ _ wn GS6.1 (SlW.ext xn3 GR.1) GS6.2 (SlN.ext xn3 GR.2)).mono ?_;rintro e wm ⟨rfl,xm⟩;have xm3:Ext Wq wm:=xn3.trans xm;clear xm)
      | (go_at_call 24;refine(QL _ (by assumption)).mono ?_;rintro e wl ⟨l8,he,li,xl⟩;have e2:=uH he;subst e2;have e3:=SZ.l.uniq li;subst e3;have xl3:Ext Wq wl:=Ext.trans (by assumption) xl;clear xl he li)
      | (go_at_call 25;refine(QC _ (by assumption)).mono ?_;rintro e we ⟨c8,he,ci,xc⟩;have e2:=uH he;subst e2;have e3:=SZ.c.uniq ci;subst e3;have xc3:Ext Wq we:=Ext.trans (by assumption) xc;clear xc he ci))
    go_wp2_with fail;go_roundw
    case rel=>exact⟨k+1,by omega,by go_num,xrq.trans xc3⟩
    case measure=>simp [intOf];omega
   ·go_wp2_with fail;go_ret;exact⟨rfl,XC.trans hbl⟩
end Go.Proofs.YtddkhnclmeikfaaGreat
