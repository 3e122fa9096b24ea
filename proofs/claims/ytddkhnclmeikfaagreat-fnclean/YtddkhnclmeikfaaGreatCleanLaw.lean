import Derived.Test.YtddkhnclmeikfaaGreatRby
import Derived.Test.YtddkhnclmeikfaaGreatSh4
set_option maxRecDepth 100000
set_option maxHeartbeats 4000000
namespace Go.Proofs.YtddkhnclmeikfaaGreat
open Go.RowKit
attribute [local go_sem ↓] Go.wp_at_zero Go.wp_at_succ
variable{ar ac ag:Option Addr}{kr kc kg bs n k:Nat}{w w':World}{x:Hp}
structure b4r(w:World)(bs n k:Nat)(p:Nat->Bool):Prop where
 lt:bs<w.heap.size
 s:∀i,i<n->∃u,w.cell? ⟨bs,i,none⟩=some (.bool u)/\(i<k->u=p i)
 f:∀i,i<n->w.frozen? ⟨bs,i,none⟩=false
theorem b4r.ext{p:Nat->Bool}(h:b4r w bs n k p)(e:Ext w w'):b4r w' bs n k p:=
 ⟨Nat.lt_of_lt_of_le h.lt e.size,λi hi=>let ⟨u,hu,hk⟩:=h.s i hi;⟨u,e.keep hu,hk⟩,λi hi=>by rw[e.frozen (p:=⟨bs,i,none⟩) h.lt];exact h.f i hi⟩
theorem b4r.set{p:Nat->Bool}(h:b4r w bs n k p)(hk:k<n):b4r (w.setCell ⟨bs,k,none⟩ (.bool (p k))) bs n (k+1) p:=by
 obtain⟨u,hu,_⟩:=h.s k hk;refine⟨by have:=h.lt;simpa [World.setCell] using this,λi hi=>?_,λi hi=>by rw[World.frozen?_setCell];exact h.f i hi⟩;by_cases q:i=k
 ·subst q;exact⟨p i,World.cell?_setCell_same _ _ _ hu,λ_=>rfl⟩
 ·obtain⟨u2,hu2,hk2⟩:=h.s i hi;exact⟨u2,by rw[uC _ (.inr (λe=>q e.symm))];exact hu2,λhlt=>hk2 (by omega)⟩
theorem c7b(x:Hp)(b r1:Nat)(Mt:List Nat)(w:World){ac:Nat->Option Addr}{kn:Nat}(bn on:Nat)(h:VNt w b x ar kr ac (some ⟨bn,on,none⟩) kn)(hm:a4a w r1 bn (Mt.map (λi=>on+i*2)))(hr:r1<w.heap.size)(hn8:x.A.length<=8000):
  Calls Tryz.prog 87 #[.pointer (some ⟨b,0,none⟩),.map (some r1)] w λe w'=>e=.returned (.slice (some ⟨w.heap.size,0,none⟩) x.A.length x.A.length)/\b4r w' w.heap.size x.A.length x.A.length (λi=>decide (i∈Mt))/\Ext w w':=by
 have n13:=h.n13;have hb:b<w.heap.size:=uL n13;have HV:=uU h;have HM:=uU hm;obtain⟨z,hmk,hz⟩:=b6b x.A.length (by omega) w
 have S0:=uU (show b4r (w.alloc (.cells z 4)) w.heap.size x.A.length 0 (λi=>decide (i∈Mt)) from by
  have S:=Sn.V w x.A.length 4;rw[<-hz] at S;exact⟨S.hb.2,λi hi=>⟨_,S.s i hi,λh=>by omega⟩,S.f⟩)
 have c13:=((Ext.refl w).alloc (.cells z 4)).keep n13;clear h hm hz;go_enter Tryz.func87,Tryz.ntmps87;go_wp2_with fail;go_loopw [18] (λi wr=>∃(k:Nat),k<=x.A.length/\i=.int .i64 k/\Hid (b4r wr w.heap.size x.A.length k (λi=>decide (i∈Mt)))/\Ext w wr) (λi _=>x.A.length-(intOf i).toNat)
 case atStart=>exact⟨0,Nat.zero_le _,rfl,S0,(Ext.refl w).alloc _⟩
 case round=>
  clear n13 c13 S0 hmk;obtain⟨k,hk,rfl,hbr,hbl⟩:=hrel;by_cases hlt:k<x.A.length
  ·have n13:=(HV.ext hbl).n13;have hk0:(0:Int)<=(k:Int):=by omega
   have hk1:(k:Int)<(x.A.length:Int):=by omega
   have M2:=uU (HM.block (hbl.block r1 hr));go_wp2_with fail;refine(c3k r1 bn (on+k*2) _ _ M2).mono ?_;rintro e w1 ⟨rfl,hq⟩;have x2:=hbl.trans hq;have E:decide (on+k*2∈Mt.map (λi=>on+i*2))=decide (k∈Mt):=by rw[Bool.eq_iff_iff];simp only [decide_eq_true_eq];exact b1x
   rw[E];have B2:=uU (hbr.ext hq);obtain⟨u,hu,_⟩:=B2.s k hlt;have hfz:=B2.f k hlt;have R:=uU (And.intro (B2.set hlt) (x2.setCell (p:=⟨w.heap.size,k,none⟩) (Nat.le_refl _) (.bool (decide (k∈Mt)))));clear n13 E;generalize decide (k∈Mt)=d at R ⊢;go_wp2_with fail;go_roundw
   case rel=>exact⟨k+1,by omega,by go_num,R.1,R.2⟩
   case measure=>simp [intOf];omega
  ·have hk2:k=x.A.length:=by omega
   subst hk2;go_wp2_with fail;go_ret;exact⟨rfl,hbr,hbl⟩
def RAns(x:Hp)(w w':World)(v:Value):Prop:=(¬eQ x 0/\v=.slice none 0 0)\/(eQ x 0/\∃(bs:Nat) (p:Nat->Bool),v=.slice (some ⟨bs,0,none⟩) x.A.length x.A.length/\w.heap.size<=bs/\b4r w' bs x.A.length x.A.length p/\∀i,p i=true↔uY x i)
theorem b4s(x:Hp)(w:World)(hR:SlW w (.slice ar x.B.length kr) x.B)(hC:SlC w (.slice ac x.A.length kc) x.A)(hG:SlI w (.slice ag x.D.length kg) x.D)(hcap:a4g w x ac):
  Calls Tryz.prog 37 #[x.v (.slice ar x.B.length kr) (.slice ac x.A.length kc) (.slice ag x.D.length kg)] w λe w'=>∃v,Hid (e=.returned v)/\Hid (RAns x w w' v)/\Ext w w':=by
 have x1:=(Ext.refl w).alloc (.cells #[iv x.M,iv x.K,iv x.born,.slice ar x.B.length kr,.slice ac x.A.length kc,iv x.E,iv x.I,iv x.sub,.slice ag x.D.length kg,iv x.per,iv x.V,iv x.Q,iv x.S] 34);have S1:=uU (SlW.ext x1 hR);have S2:=uU (SlC.ext x1 hC);have S3:=uU (SlI.ext x1 hG);have S4:=uU (hcap.extS hC x1);clear hR hC hG hcap;go_enter Tryz.func37,Tryz.ntmps37;go_wp2_with fail;refine(b5r x _ S1 S2 S3 S4).mono ?_;rintro e w2 ⟨hq,hor⟩;have x2:=x1.trans hq;rcases uH hor with⟨hn,rfl⟩ | ⟨hok,b,an,kn,rfl,hv,han⟩
 ·have N:=uU hn;clear hor hn;go_wp2_with fail;go_ret;exact⟨_,rfl,.inl ⟨N,rfl⟩,x2⟩
 ·obtain⟨bn,on,rfl⟩:=uH han;have OK:=uU hok;have V:=uU hv;clear hor hok hv han;go_wp2_with fail;refine(c0i x b _ bn on V.vn OK.all.2.1 OK.all.2.2.2 OK.n8 OK.p200 (λw1 h1=>b7i x b w1 bn on h1 OK.n8)).mono ?_;rintro e w3 ⟨rfl,Mt,hm,hlt,hr,hq3⟩;have x3:=x2.trans hq3;have M:=uU hm;clear hm;go_wp2_with fail;refine(c7b x b w2.heap.size Mt _ bn on (V.ext hq3).vn M hlt OK.n8).mono ?_;rintro e w4 ⟨rfl,hbr,hq4⟩;have x4:=x3.trans hq4;have B:=uU hbr;clear hbr;go_wp2_with fail;go_ret;exact⟨_,rfl,.inr ⟨OK,w3.heap.size,_,rfl,x3.size,B,λi=>by simpa using uH hr i⟩,x4⟩
theorem b7j(x:Hp)(w:World)(hR:SlW w (.slice ar x.B.length kr) x.B)(hC:SlC w (.slice ac x.A.length kc) x.A)(hG:SlI w (.slice ag x.D.length kg) x.D):
  Calls Tryz.prog 27 #[x.v (.slice ar x.B.length kr) (.slice ac x.A.length kc) (.slice ag x.D.length kg)] w λe w'=>∃r:Nat,Hid (e=.returned (.int .i64 (r:Int)))/\zL x r/\Ext w w':=by
 have x1:=(Ext.refl w).alloc (.cells #[iv x.M,iv x.K,iv x.born,.slice ar x.B.length kr,.slice ac x.A.length kc,iv x.E,iv x.I,iv x.sub,.slice ag x.D.length kg,iv x.per,iv x.V,iv x.Q,iv x.S] 34);have S1:=uU (SlW.ext x1 hR);have S2:=uU (SlC.ext x1 hC);have S3:=uU (SlI.ext x1 hG);have HB:=uU (c2v x w hR hC hG);clear hR hC hG;go_enter Tryz.func27,Tryz.ntmps27;go_wp2_with fail;refine(a6b x _ S1 S2 S3).mono ?_;rintro e w2 ⟨n,rfl,hok2,hq⟩;have x2:=x1.trans hq;have OK2:=uU hok2;have H2:=uU (HB.ext hq);clear hok2 hq;cases t:(n == 0)
 ·have t2:(n != 0)=true:=by simpa using t
  have N:=uU (show zL x 0 from .inr ⟨λh=>by have:=eQ.uniq h OK2;simp at t;omega,rfl⟩);go_wp2_with fail;go_ret;exact⟨0,rfl,N,x2⟩
 ·have t2:(n != 0)=false:=by simpa using t
  have Y:=uU (show eQ x 0 by have:=uH OK2;simp at t;rw[t] at this;exact this);go_wp2_with fail;refine(b2d x w.heap.size _ H2 Y).mono ?_;rintro e w3 ⟨r,rfl,hl,hq3⟩;have x3:=x2.trans hq3;go_wp2_with fail;go_ret;exact⟨r,rfl,hl,x3⟩
theorem HV.ext(h:HV w x ar kr ac kc ag kg)(e:Ext w w'):HV w' x ar kr ac kc ag kg:=⟨h.1.ext e,h.2.extS h.1.2.1 e⟩
theorem HA.hv{B U:Nat}{y:Hp}(h:HA B U w y ar kr ac kc ag kg):HV w y ar kr ac kc ag kg:=by
 refine⟨h.rd,?_⟩;rcases h with⟨rfl,rfl,rfl,rfl,rfl,rfl,rfl⟩ | ⟨br,bc,bg,pb,pa,pk,rfl,rfl,rfl,h⟩
 ·intro i hi;simp [Hp0] at hi
 ·intro i hi b2 oc ad l c ha hc;simp only [Option.some.injEq,Addr.mk.injEq] at ha;obtain⟨rfl,rfl,_⟩:=ha;rw[Nat.zero_add,h.p7 i hi] at hc;simp only [Option.some.injEq,Value.slice.injEq] at hc;obtain⟨_,rfl,rfl⟩:=hc;exact .inl (h.k i hi)
theorem c2q{r:Nat}(h:HV w x ar kr ac kc ag kg)(c:zL x r)(e:Up w w'):Calls Tryz.prog 27 #[x.v (.slice ar x.B.length kr) (.slice ac x.A.length kc) (.slice ag x.D.length kg)] w' λe w''=>e=.returned (.int .i64 (r:Int))/\Up w w'':=
 a4c ((b7j x w' (h.ext e.ext).1.1 (h.ext e.ext).1.2.1 (h.ext e.ext).1.2.2).mono (by
  rintro e w'' ⟨s,he,k,x⟩;rw[c.uniq k];exact⟨he,x⟩)) e
theorem HV.cell(h:HV w x ar kr ac kc ag kg)(k:Nat)(hk:k<x.A.length):∃b o,ac=some ⟨b,o,none⟩/\w.cell? ⟨b,o+k*8,none⟩=some (iv (x.c k).st):=by
 obtain⟨ad,cap,e,_,hx⟩:=h.1.2.1;obtain⟨b,o,ha,vp,p0,_⟩:=hx k hk;rw[Hp.c_eq x k hk] at p0;simp only [Value.slice.injEq] at e;exact⟨b,o,e.1.trans ha,p0⟩
theorem c0m(w:World)(u:Value)(hu:ByAt w u):
  Calls Tryz.prog 6 #[u] w λe w'=>e=.returned (.bool true)/\Ext w w':=by
 have QG:=uU (c6k w u hu);obtain⟨au,nu,ku,rfl,hnu,_⟩:=hu;have hnu2:¬((nu:Int) > 1048576):=by omega
 go_enter Tryz.func6,Tryz.ntmps6;go_wp2_with fail;refine QG.mono ?_;rintro e w1 ⟨x,ar0,kr0,ac0,kc0,ag0,kg0,he,S,V1,x1⟩;have e2:=uH he;subst e2
 go_upto_region 4 with(fail)
 obtain⟨W1,hW1⟩:∃W,W=w1.alloc (.cells #[iv x.M,iv x.K,iv x.born,.slice ar0 x.B.length kr0,.slice ac0 x.A.length kc0,iv x.E,iv x.I,iv x.sub,.slice ag0 x.D.length kg0,iv x.per,iv x.V,iv x.Q,iv x.S] 34):=⟨_,rfl⟩;have BX:=uU (dE.new w1 x (.slice ar0 x.B.length kr0) (.slice ac0 x.A.length kc0) (.slice ag0 x.D.length kg0) 34);have XA:Ext w1 W1:=by rw[hW1];exact(Ext.refl _).alloc _
 rw[<-hW1] at BX ⊢;obtain⟨p,hp⟩:∃p,p=w1.heap.size:=⟨_,rfl⟩;rw[<-hp] at BX ⊢;have XW:=uU (x1.trans XA);have VX:=uU (V1.ext XA);clear hW1 hp XA x1 V1 he QG;obtain⟨n,LV⟩:=live_ex x S;obtain⟨c0,c1,c2,c3,c4,c5,c6,c7,c8,c9,c10,c11,c12⟩:=uH BX;have hpw:p<W1.heap.size:=uL c0;go_wp2_with fail;refine(b4p x W1 VX.1.1 VX.1.2.1 VX.1.2.2 VX.2).mono ?_;rintro e w2 ⟨y,ar1,kr1,ac1,kc1,ag1,kg1,he,ro,ha,x2⟩;have e2:=uH he;subst e2;have VY:=uU ha.hv;have CLN:=uU (b8r S ro LV);have RO:=uU ro;clear he ro ha c0 c1 c2 c3 c4 c5 c6 c7 c8 c9 c10 c11 c12 hpw
 go_upto_region 5 with(fail)
 obtain⟨W2,hW2⟩:∃W,W=w2.alloc (.cells #[iv y.M,iv y.K,iv y.born,.slice ar1 y.B.length kr1,.slice ac1 y.A.length kc1,iv y.E,iv y.I,iv y.sub,.slice ag1 y.D.length kg1,iv y.per,iv y.V,iv y.Q,iv y.S] 34):=⟨_,rfl⟩;have BY:=uU (dE.new w2 y (.slice ar1 y.B.length kr1) (.slice ac1 y.A.length kc1) (.slice ag1 y.D.length kg1) 34);have XA:Ext w2 W2:=by rw[hW2];exact(Ext.refl _).alloc _
 rw[<-hW2] at BY ⊢;obtain⟨p2,hp2⟩:∃p,p=w2.heap.size:=⟨_,rfl⟩;rw[<-hp2] at BY ⊢;have XW:=uU (XW.trans (x2.trans XA));have VX:=uU (VX.ext (x2.trans XA));have BX:=uU (BX.ext (x2.trans XA));have VY:=uU (VY.ext XA);clear hW2 hp2 XA x2;have QL:=uU (λw' (e:Up W2 w')=>c2q VX LV e)
 have F0:=λ(W:World) (e:Up W2 W)=>(show W.cell? ⟨p,0,none⟩=some (iv x.M)/\W.cell? ⟨p,1,none⟩=some (iv x.K)/\W.cell? ⟨p,2,none⟩=some (iv x.born)/\W.cell? ⟨p,3,none⟩=some (.slice ar0 x.B.length kr0)/\W.cell? ⟨p,4,none⟩=some (.slice ac0 x.A.length kc0)/\W.cell? ⟨p,5,none⟩=some (iv x.E)/\W.cell? ⟨p,6,none⟩=some (iv x.I)/\W.cell? ⟨p,7,none⟩=some (iv x.sub)/\W.cell? ⟨p,8,none⟩=some (.slice ag0 x.D.length kg0)/\W.cell? ⟨p,9,none⟩=some (iv x.per)/\W.cell? ⟨p,10,none⟩=some (iv x.V)/\W.cell? ⟨p,11,none⟩=some (iv x.Q)/\W.cell? ⟨p,12,none⟩=some (iv x.S)/\W.cell? ⟨p2,1,none⟩=some (iv n)/\W.cell? ⟨p2,5,none⟩=some (iv 0)/\W.cell? ⟨p2,3,none⟩=some (.slice ar1 16 kr1) from by
  obtain⟨c0,c1,c2,c3,c4,c5,c6,c7,c8,c9,c10,c11,c12⟩:=BX.ext e;obtain⟨d0,d1,d2,d3,d4,d5,d6,d7,d8,d9,d10,d11,d12⟩:=BY.ext e;obtain⟨sy,ph,us,_⟩:=uH CLN;rw[us] at d1;rw[ph] at d5;rw[sy.r1.B] at d3;exact⟨c0,c1,c2,c3,c4,c5,c6,c7,c8,c9,c10,c11,c12,d1,d5,d3⟩)
 clear LV;go_cut [29] (λs wx=>s=.bool false/\Hid (Ext W2 wx))
 case first=>
  refine wp_region_quiet (C:=Up W2) (by kernel_rfl) (by kernel_rfl) (show Ext _ _ from(Ext.refl _).drew) ?_
  go_simp
  repeat (first | go_big_quiet_skip | (go_big_quiet_want;go_big_quiet_op;first | go_big_quiet_on | (apply Exists.intro;refine⟨λw' hw'=>?_,?_⟩;(first | (go_at_call 27;exact(uH QL w' hw')) | (with_reducible rfl) | (go_simp;first | done | (with_reducible rfl) | (refine⟨?_,?_⟩ <;> with_reducible rfl)));go_big_quiet_on)))
  refine wpQuiet_nil ?_;intro w7 hq7;go_wp2_with fail;go_meet;exact⟨rfl,hq7.ext⟩
 case rest=>
  obtain⟨rfl,X3⟩:=hcut;have x3:=uH X3;have XW:=uU (XW.trans x3);have BX:=uU (BX.ext x3);have BY:=uU (BY.ext x3);have VX:=uU (VX.ext x3);have VY:=uU (VY.ext x3);clear x3 X3 F0 QL;have SY:=uU CLN.1;obtain⟨d0,d1,d2,d3,d4,d5,d6,d7,d8,d9,d10,d11,d12⟩:=uH BY;have hpw:p2<wc.heap.size:=uL d0;go_wp2_with fail;refine(b4s y wc VY.1.1 VY.1.2.1 VY.1.2.2 VY.2).mono ?_;rintro e w4 ⟨v,he,hh,x4⟩;have e2:=uH he;subst e2;have XW:=uU (XW.trans x4);have BX:=uU (BX.ext x4);have BY:=uU (BY.ext x4);have VX:=uU (VX.ext x4);have VY:=uU (VY.ext x4);obtain⟨no,_⟩ | ⟨_,bs,P,rfl,hbs,R1,hP⟩:=uH hh
  ·exact absurd SY.ok no
  have HR:=uU R1;have ALL:=uU (λi (hi:i<y.A.length)=>(show P i=true/\(y.c i).st=1 from⟨(hP i).2 (CLN.2.2.2 i hi).2,(CLN.2.2.2 i hi).1⟩));clear he hh x4 R1 hP d0 d1 d2 d3 d4 d5 d6 d7 d8 d9 d10 d11 d12 hpw;obtain⟨d0,d1,d2,d3,d4,d5,d6,d7,d8,d9,d10,d11,d12⟩:=uH BY;have hpw:p2<w4.heap.size:=uL d0;go_wp2_with fail;go_loopw [6,41] (λ_i i wr=>Hid (wr=w4)/\∃k:Nat,k<=y.A.length/\i=.int .i64 k) (λ_ i _=>y.A.length-(intOf i).toNat)
  case atStart=>exact⟨rfl,0,Nat.zero_le _,rfl⟩
  case round=>
   obtain⟨hw,k,hk,rfl⟩:=hrel;have hw2:=uH hw;subst hw2;clear hw;by_cases hlt:k<y.A.length
   ·have n8:=SY.ok.n8;have HL:=uU (show k+1<=y.A.length from hlt);obtain⟨u,hu,hu2⟩:=HR.s k hlt;obtain⟨b',o',e1,q0⟩:=VY.cell k hlt;rw[((uH ALL) k hlt).2] at q0;have e3:u=true:=by rw[hu2 hlt];exact(ALL k hlt).1
    subst e3;subst e1;clear hu2;have hb:bs<wr.heap.size:=uL hu;have hb':b'<wr.heap.size:=uL q0;have hk0:(0:Int)<=(k:Int):=by omega
    have hk1:(k:Int)<(y.A.length:Int):=by omega
    go_wp2_with fail;go_roundw
    ·exact⟨trivial,k+1,HL,by go_num⟩
    ·have:=uH HL;simp [intOf];omega
   ·have hke:k=y.A.length:=by omega
    subst hke;clear hk hlt HR ALL;obtain⟨c0,c1,c2,c3,c4,c5,c6,c7,c8,c9,c10,c11,c12⟩:=uH BX;have hpw0:p<wr.heap.size:=uL c0;go_wp2_with fail
    have KP:=uU (λ(W:World) (e:Ext wr W)=>(show W.cell? ⟨p,0,none⟩=some (iv x.M)/\W.cell? ⟨p,1,none⟩=some (iv x.K)/\W.cell? ⟨p,2,none⟩=some (iv x.born)/\W.cell? ⟨p,3,none⟩=some (.slice ar0 x.B.length kr0)/\W.cell? ⟨p,4,none⟩=some (.slice ac0 x.A.length kc0)/\W.cell? ⟨p,5,none⟩=some (iv x.E)/\W.cell? ⟨p,6,none⟩=some (iv x.I)/\W.cell? ⟨p,7,none⟩=some (iv x.sub)/\W.cell? ⟨p,8,none⟩=some (.slice ag0 x.D.length kg0)/\W.cell? ⟨p,9,none⟩=some (iv x.per)/\W.cell? ⟨p,10,none⟩=some (iv x.V)/\W.cell? ⟨p,11,none⟩=some (iv x.Q)/\W.cell? ⟨p,12,none⟩=some (iv x.S)/\W.cell? ⟨p2,0,none⟩=some (iv y.M)/\W.cell? ⟨p2,1,none⟩=some (iv y.K)/\W.cell? ⟨p2,2,none⟩=some (iv y.born)/\W.cell? ⟨p2,3,none⟩=some (.slice ar1 y.B.length kr1)/\W.cell? ⟨p2,4,none⟩=some (.slice ac1 y.A.length kc1)/\W.cell? ⟨p2,5,none⟩=some (iv y.E)/\W.cell? ⟨p2,6,none⟩=some (iv y.I)/\W.cell? ⟨p2,7,none⟩=some (iv y.sub)/\W.cell? ⟨p2,8,none⟩=some (.slice ag1 y.D.length kg1)/\W.cell? ⟨p2,9,none⟩=some (iv y.per)/\W.cell? ⟨p2,10,none⟩=some (iv y.V)/\W.cell? ⟨p2,11,none⟩=some (iv y.Q)/\W.cell? ⟨p2,12,none⟩=some (iv y.S) from
     let ⟨c0,c1,c2,c3,c4,c5,c6,c7,c8,c9,c10,c11,c12⟩:=BX.ext e
     let ⟨d0,d1,d2,d3,d4,d5,d6,d7,d8,d9,d10,d11,d12⟩:=BY.ext e
     ⟨c0,c1,c2,c3,c4,c5,c6,c7,c8,c9,c10,c11,c12,d0,d1,d2,d3,d4,d5,d6,d7,d8,d9,d10,d11,d12⟩))
    clear c0 c1 c2 c3 c4 c5 c6 c7 c8 c9 c10 c11 c12 hpw0 d0 d1 d2 d3 d4 d5 d6 d7 d8 d9 d10 d11 d12 hpw;have QR:=uU (λ(W:World) (e:Ext wr W)=>b4e x W (VX.ext e).1.1 (VX.ext e).1.2.1 (VX.ext e).1.2.2)
    go_region_held3 (λW=>W.cell? ⟨p,0,none⟩=some (iv x.M)/\W.cell? ⟨p,1,none⟩=some (iv x.K)/\W.cell? ⟨p,2,none⟩=some (iv x.born)/\W.cell? ⟨p,3,none⟩=some (.slice ar0 x.B.length kr0)/\W.cell? ⟨p,4,none⟩=some (.slice ac0 x.A.length kc0)/\W.cell? ⟨p,5,none⟩=some (iv x.E)/\W.cell? ⟨p,6,none⟩=some (iv x.I)/\W.cell? ⟨p,7,none⟩=some (iv x.sub)/\W.cell? ⟨p,8,none⟩=some (.slice ag0 x.D.length kg0)/\W.cell? ⟨p,9,none⟩=some (iv x.per)/\W.cell? ⟨p,10,none⟩=some (iv x.V)/\W.cell? ⟨p,11,none⟩=some (iv x.Q)/\W.cell? ⟨p,12,none⟩=some (iv x.S)/\W.cell? ⟨p2,0,none⟩=some (iv y.M)/\W.cell? ⟨p2,1,none⟩=some (iv y.K)/\W.cell? ⟨p2,2,none⟩=some (iv y.born)/\W.cell? ⟨p2,3,none⟩=some (.slice ar1 y.B.length kr1)/\W.cell? ⟨p2,4,none⟩=some (.slice ac1 y.A.length kc1)/\W.cell? ⟨p2,5,none⟩=some (iv y.E)/\W.cell? ⟨p2,6,none⟩=some (iv y.I)/\W.cell? ⟨p2,7,none⟩=some (iv y.sub)/\W.cell? ⟨p2,8,none⟩=some (.slice ag1 y.D.length kg1)/\W.cell? ⟨p2,9,none⟩=some (iv y.per)/\W.cell? ⟨p2,10,none⟩=some (iv y.V)/\W.cell? ⟨p2,11,none⟩=some (iv y.Q)/\W.cell? ⟨p2,12,none⟩=some (iv y.S)) ((with_reducible refine uH KP _ ?_;with_reducible (first | exact Ext.refl _ | assumption | (refine Ext.drew ?_;first | exact Ext.refl _ | assumption))))
     (first
      | (go_at_call 38;refine(QR _ (by first | exact Ext.refl _ | exact(Ext.refl wr).drew | assumption)).mono ?_;rintro e wn ⟨y2,ar2,kr2,ac2,kc2,ag2,kg2,he,ro2,hr,xn⟩;have e2:=uH he;subst e2;have ey:=b2z.uniq RO ro2;subst ey;have xn3:Ext wr wn:=(by first | exact xn | exact Ext.trans (Ext.refl wr).drew xn);have VR:=uU hr;clear xn he ro2 hr)
      | (go_at_call 34;refine(c2j y _ (VY.ext (by first | exact Ext.refl _ | exact(Ext.refl wr).drew | assumption)).1 VR).mono ?_;rintro e wm ⟨rfl,xm⟩;have xm3:Ext wr wm:=Ext.trans (by assumption) xm;clear xm))
    all_goals
     go_wp2_with fail;go_ret;exact⟨rfl,XW.trans (by assumption)⟩
end Go.Proofs.YtddkhnclmeikfaaGreat
