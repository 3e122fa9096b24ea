import Derived.Test.YtddkhnclmeikfaaGreatIn
import Derived.BigQuiet
import Derived.Deep.QuietTactic
set_option maxRecDepth 100000
set_option maxHeartbeats 1000000
namespace Go.Proofs.YtddkhnclmeikfaaGreat
open Go.RowKit
attribute [local go_sem ↓] Go.wp_at_zero Go.wp_at_succ
variable{ar ac ag:Option Addr}{kr kc kg i k n:Nat}{x:Hp}{w:World}{lo hi:Int}{y:Wd}
theorem Ext.drewN{a:World}(h:Ext a w)(n:Nat):Ext a (w.drewN n):=below_drewN h n
theorem eC(n lo hi:Int)(r:Bool)(h:hD n lo hi=r)(w:World):Calls Tryz.prog 60 #[.int .i64 n,.int .i64 lo,.int .i64 hi] w λe w'=>e=.returned (.bool r)/\w'=w:=by
 rw[<-h];exact dK n lo hi w
theorem a3c{P:Program}{f:FuncId}{args:Array Value}{v:Value}(h:Calls P f args (w.drewN (k+n)) λe w'=>e=.returned v/\w'=w.drewN (k+n)):
  Calls P f args (w.drewN (k+n)) λe w''=>e=.returned v/\∃m,w''=w.drewN (k+m):=h.mono λ_ _ ⟨he,hm⟩=>⟨he,n,hm⟩
theorem cK{n:Int}(h:hD n lo hi=true):lo<=n/\n<=hi:=by simpa [hD] using h
theorem a0d{n:Int}(h:hD n lo hi=false):¬(lo<=n/\n<=hi):=by unfold hD at h;exact of_decide_eq_false h
theorem c3o(x:Hp)(b:Nat)(w:World)(h:HAt w b x ar kr ac kc ag kg)(q0:hD x.M 1 4000=false):
  Calls Tryz.prog 126 #[.pointer (some ⟨b,0,none⟩)] w λe w'=>e=.returned (.bool false)/\Ext w w':=by
 obtain⟨c0,c1,c2,c3,c4,c5,c6,c7,c8,c9,c10,c11,c12,lr,lc,lg,R,C,G⟩:=h;clear R C G;go_enter Tryz.func126,Tryz.ntmps126;go_wp2_with fail;go_quiet ((go_at_call 60;exact Calls.quiet_of_same (dK _ _ _ _)));go_wp2_with fail;go_ret;exact⟨rfl,by repeat (first | exact Ext.refl _ | refine Ext.drewN ?_ _)⟩
theorem c3p(x:Hp)(b:Nat)(w:World)(h:HAt w b x ar kr ac kc ag kg)(q0:hD x.M 1 4000=true)(q1:((x.B.length:Int) != 16)=true):
  Calls Tryz.prog 126 #[.pointer (some ⟨b,0,none⟩)] w λe w'=>e=.returned (.bool false)/\Ext w w':=by
 obtain⟨c0,c1,c2,c3,c4,c5,c6,c7,c8,c9,c10,c11,c12,lr,lc,lg,R,C,G⟩:=h;clear R C G;have p0:=cK q0;go_enter Tryz.func126,Tryz.ntmps126;go_wp2_with fail;go_quiet ((go_at_call 60;exact Calls.quiet_of_same (dK _ _ _ _)));go_wp2_with fail;go_ret;exact⟨rfl,by repeat (first | exact Ext.refl _ | refine Ext.drewN ?_ _)⟩
theorem c3q(x:Hp)(b:Nat)(w:World)(h:HAt w b x ar kr ac kc ag kg)(q0:hD x.M 1 4000=true)(q1:((x.B.length:Int) != 16)=false)(q2:decide (2*x.M<(x.A.length:Int))=true):
  Calls Tryz.prog 126 #[.pointer (some ⟨b,0,none⟩)] w λe w'=>e=.returned (.bool false)/\Ext w w':=by
 obtain⟨c0,c1,c2,c3,c4,c5,c6,c7,c8,c9,c10,c11,c12,lr,lc,lg,R,C,G⟩:=h;clear R C G;have p0:=cK q0;go_enter Tryz.func126,Tryz.ntmps126;go_wp2_with fail;go_quiet ((go_at_call 60;exact Calls.quiet_of_same (dK _ _ _ _)));go_wp2_with fail;go_ret;exact⟨rfl,by repeat (first | exact Ext.refl _ | refine Ext.drewN ?_ _)⟩
theorem c3r(x:Hp)(b:Nat)(w:World)(h:HAt w b x ar kr ac kc ag kg)(q0:hD x.M 1 4000=true)(q1:((x.B.length:Int) != 16)=false)(q2:decide (2*x.M<(x.A.length:Int))=false)(q3:decide (x.A.length<x.D.length)=true):
  Calls Tryz.prog 126 #[.pointer (some ⟨b,0,none⟩)] w λe w'=>e=.returned (.bool false)/\Ext w w':=by
 obtain⟨c0,c1,c2,c3,c4,c5,c6,c7,c8,c9,c10,c11,c12,lr,lc,lg,R,C,G⟩:=h;clear R C G;have p0:=cK q0;go_enter Tryz.func126,Tryz.ntmps126;go_wp2_with fail;go_quiet ((go_at_call 60;exact Calls.quiet_of_same (dK _ _ _ _)));go_wp2_with fail;go_ret;exact⟨rfl,by repeat (first | exact Ext.refl _ | refine Ext.drewN ?_ _)⟩
theorem c3s(x:Hp)(b:Nat)(w:World)(h:HAt w b x ar kr ac kc ag kg)(q0:hD x.M 1 4000=true)(q1:((x.B.length:Int) != 16)=false)(q2:decide (2*x.M<(x.A.length:Int))=false)(q3:decide (x.A.length<x.D.length)=false)(q4:hD x.born 0 1000000000=false):
  Calls Tryz.prog 126 #[.pointer (some ⟨b,0,none⟩)] w λe w'=>e=.returned (.bool false)/\Ext w w':=by
 obtain⟨c0,c1,c2,c3,c4,c5,c6,c7,c8,c9,c10,c11,c12,lr,lc,lg,R,C,G⟩:=h;clear R C G;have p0:=cK q0;go_enter Tryz.func126,Tryz.ntmps126;go_wp2_with fail;go_quiet ((go_at_call 60;exact Calls.quiet_of_same (dK _ _ _ _)));go_wp2_with (go_at_call 60;refine(dK _ _ _ _).mono ?_;rintro e w' ⟨rfl,rfl⟩);go_ret;exact⟨rfl,by repeat (first | exact Ext.refl _ | refine Ext.drewN ?_ _)⟩
theorem c3t(x:Hp)(b:Nat)(w:World)(h:HAt w b x ar kr ac kc ag kg)(q0:hD x.M 1 4000=true)(q1:((x.B.length:Int) != 16)=false)(q2:decide (2*x.M<(x.A.length:Int))=false)(q3:decide (x.A.length<x.D.length)=false)(q4:hD x.born 0 1000000000=true)(q5:hD x.Q 0 1000000000=false):
  Calls Tryz.prog 126 #[.pointer (some ⟨b,0,none⟩)] w λe w'=>e=.returned (.bool false)/\Ext w w':=by
 obtain⟨c0,c1,c2,c3,c4,c5,c6,c7,c8,c9,c10,c11,c12,lr,lc,lg,R,C,G⟩:=h;clear R C G;have p0:=cK q0;go_enter Tryz.func126,Tryz.ntmps126;go_wp2_with fail;go_quiet ((go_at_call 60;exact Calls.quiet_of_same (dK _ _ _ _)));go_wp2_with (go_at_call 60;refine(dK _ _ _ _).mono ?_;rintro e w' ⟨rfl,rfl⟩);go_ret;exact⟨rfl,by repeat (first | exact Ext.refl _ | refine Ext.drewN ?_ _)⟩
theorem c3u(x:Hp)(b:Nat)(w:World)(h:HAt w b x ar kr ac kc ag kg)(q0:hD x.M 1 4000=true)(q1:((x.B.length:Int) != 16)=false)(q2:decide (2*x.M<(x.A.length:Int))=false)(q3:decide (x.A.length<x.D.length)=false)(q4:hD x.born 0 1000000000=true)(q5:hD x.Q 0 1000000000=true)(q6:hD x.S 0 1000000000=false):
  Calls Tryz.prog 126 #[.pointer (some ⟨b,0,none⟩)] w λe w'=>e=.returned (.bool false)/\Ext w w':=by
 obtain⟨c0,c1,c2,c3,c4,c5,c6,c7,c8,c9,c10,c11,c12,lr,lc,lg,R,C,G⟩:=h;clear R C G;have p0:=cK q0;go_enter Tryz.func126,Tryz.ntmps126;go_wp2_with fail;go_quiet ((go_at_call 60;exact Calls.quiet_of_same (dK _ _ _ _)));go_wp2_with (go_at_call 60;refine(dK _ _ _ _).mono ?_;rintro e w' ⟨rfl,rfl⟩);go_ret;exact⟨rfl,by repeat (first | exact Ext.refl _ | refine Ext.drewN ?_ _)⟩
def a7u(x:Hp)(i:Nat):Bool:=(x.c i).st == 1
def dJ(w:Wd)(n:Nat):Bool:=if w.k=0 then w.n == 0 && w.a == 0 else if w.k=1 then w.a == 0 else if w.k=2 then w.n == 0 && decide (0<=w.a) && decide (w.a<n) else false
def a0n(x:Hp)(i:Nat):Bool:=(x.E == 3) && decide (x.I<=i) && ((x.c i).st == 1) && ((x.c i).J == 0)
def eD(x:Hp)(i k:Nat):Bool:=if x.E=4 then false else if x.E=5 then decide ((i:Int)<x.I) || ((i:Int) == x.I && decide ((k:Int)<x.sub)) else true
theorem b4t:a7u x i=true↔(x.c i).st=1:=by simp [a7u]
theorem a2b:a0n x i=true↔hY x i:=by simp [a0n,hY,and_assoc]
theorem a0j{w:Wd}:dJ w n=true↔uE w n:=by
 unfold dJ uE;by_cases h0:w.k=0
 ·simp [h0]
 ·by_cases h1:w.k=1
  ·simp [h1]
  ·by_cases h2:w.k=2
   ·simp [h2,and_assoc]
   ·simp [h0,h1,h2]
theorem b0z:eD x i k=true↔cX x i k:=by
 unfold eD cX;by_cases h4:x.E=4
 ·simp [h4]
 ·by_cases h5:x.E=5
  ·simp [h5]
  ·simp [h4,h5]
theorem a5b(x:Hp)(b:Nat)(a:Int)(w:World)(h:HAt w b x ar kr ac kc ag kg)(h0:0<=a)(h1:a<x.A.length):
  Calls Tryz.prog 203 #[.pointer (some ⟨b,0,none⟩),.int .i64 a] w λe w'=>e=.returned (.bool (a7u x a.toNat))/\w'=w:=by
 obtain⟨i,rfl⟩:=Int.eq_ofNat_of_zero_le h0;rw[Int.toNat_natCast];obtain⟨b',o,rfl,vp,p0,_⟩:=h.C i (by omega);have c4:=h.c4;have lc:=h.lc;clear h;go_enter Tryz.func203,Tryz.ntmps203
 go_wp2
 go_ret;exact⟨rfl,rfl⟩
theorem a1r(x:Wd)(n:Nat)(w:World):Calls Tryz.prog 207 #[x.v,.int .i64 n] w λe w'=>e=.returned (.bool (dJ x n))/\Ext w w':=by
 by_cases h0:x.k=0
 ·have e:dJ x n=(x.n == 0 && x.a == 0):=by simp [dJ,h0]
  have E:=uU e;clear e;cases q:(x.n == 0)
  all_goals
   go_enter Tryz.func207,Tryz.ntmps207
   go_wp2
   go_ret;exact⟨by rw[uH E];simp [q],(Ext.refl w).alloc _⟩
 ·have k0:(x.k == 0)=false:=by simp [h0]
  by_cases h1:x.k=1
  ·have e:dJ x n=(x.a == 0):=by simp [dJ,h1]
   have E:=uU e;clear e h0 k0;go_enter Tryz.func207,Tryz.ntmps207
   go_wp2
   go_ret;exact⟨by rw[uH E];simp,(Ext.refl w).alloc _⟩
  ·have k1:(x.k == 1)=false:=by simp [h1]
   by_cases h2:x.k=2
   ·have e:dJ x n=(x.n == 0 && decide (0<=x.a) && decide (x.a<n)):=by simp [dJ,h2]
    have E:=uU e;clear e h0 k0 h1 k1;cases q:(x.n == 0)
    ·go_enter Tryz.func207,Tryz.ntmps207
     go_wp2
     go_ret;exact⟨by rw[uH E];simp [q],(Ext.refl w).alloc _⟩
    ·by_cases q2:0<=x.a
     ·go_enter Tryz.func207,Tryz.ntmps207
      go_wp2
      go_ret;exact⟨by rw[uH E];simp [q,q2],(Ext.refl w).alloc _⟩
     ·have q3:decide (0<=x.a)=false:=by simp;omega
      go_enter Tryz.func207,Tryz.ntmps207
      go_wp2
      go_ret;exact⟨by rw[uH E,q3];simp,(Ext.refl w).alloc _⟩
   ·have k2:(x.k == 2)=false:=by simp [h2]
    have e:dJ x n=false:=by simp [dJ,h0,h1,h2]
    have E:=uU e;clear e;go_enter Tryz.func207,Tryz.ntmps207
    go_wp2
    go_ret;exact⟨by rw[uH E];rfl,(Ext.refl w).alloc _⟩
theorem a8w(x:Hp)(b:Nat)(a:Int)(w:World)(h:HAt w b x ar kr ac kc ag kg)(h0:0<=a)(h1:a<x.A.length):
  Calls Tryz.prog 206 #[.pointer (some ⟨b,0,none⟩),.int .i64 a] w λe w'=>e=.returned (.bool (a0n x a.toNat))/\w'=w:=by
 obtain⟨i,rfl⟩:=Int.eq_ofNat_of_zero_le h0;rw[Int.toNat_natCast];have hu:=a5b x b i w h h0 h1;rw[Int.toNat_natCast] at hu;have HU:=uU hu;clear hu;obtain⟨b',o,rfl,vp,p0,p1,p2,p3,p4,p5,_⟩:=h.C i (by omega);have c4:=h.c4;have c5:=h.c5;have c6:=h.c6;have lc:=h.lc;clear h;cases q1:(x.E == 3)
 ·go_enter Tryz.func206,Tryz.ntmps206
  go_wp2
  go_ret;exact⟨by simp [a0n,q1],rfl⟩
 ·cases q2:decide (x.I<=(i:Int))
  ·go_enter Tryz.func206,Tryz.ntmps206
   go_wp2
   go_ret;exact⟨by simp [a0n,q1,q2],rfl⟩
  ·cases q3:a7u x i
   ·go_enter Tryz.func206,Tryz.ntmps206;go_wp2_with (go_at_call 203;refine HU.mono ?_;rintro e w' ⟨rfl,rfl⟩);go_ret;exact⟨by unfold a7u at q3;simp [a0n,q3],rfl⟩
   ·go_enter Tryz.func206,Tryz.ntmps206;go_wp2_with (go_at_call 203;refine HU.mono ?_;rintro e w' ⟨rfl,rfl⟩);go_ret;exact⟨by unfold a7u at q3;simp [a0n,q1,q2,q3],rfl⟩
theorem b5z(x:Hp)(b i k:Nat)(w:World)(h:HAt w b x ar kr ac kc ag kg):
  Calls Tryz.prog 208 #[.pointer (some ⟨b,0,none⟩),.int .i64 i,.int .i64 k] w λe w'=>e=.returned (.bool (eD x i k))/\w'=w:=by
 have c5:=h.c5;have c6:=h.c6;have c7:=h.c7;clear h;by_cases h4:x.E=4
 ·have E:=uU (show eD x i k=false by simp [eD,h4]);go_enter Tryz.func208,Tryz.ntmps208
  go_wp2
  go_ret;exact⟨by rw[uH E];rfl,rfl⟩
 ·have k4:(x.E == 4)=false:=by simp [h4]
  by_cases h5:x.E=5
  ·have E:=uU (show eD x i k=(decide ((i:Int)<x.I) || ((i:Int) == x.I && decide ((k:Int)<x.sub))) by simp [eD,h5]);clear h4 k4;cases q1:decide ((i:Int)<x.I)
   ·cases q2:((i:Int) == x.I)
    ·go_enter Tryz.func208,Tryz.ntmps208
     go_wp2
     go_ret;exact⟨by rw[uH E,q1,q2];simp,rfl⟩
    ·go_enter Tryz.func208,Tryz.ntmps208
     go_wp2
     go_ret;exact⟨by rw[uH E,q1,q2];simp,rfl⟩
   ·go_enter Tryz.func208,Tryz.ntmps208
    go_wp2
    go_ret;exact⟨by rw[uH E,q1];simp,rfl⟩
  ·have k5:(x.E == 5)=false:=by simp [h5]
   have E:=uU (show eD x i k=true by simp [eD,h4,h5]);go_enter Tryz.func208,Tryz.ntmps208
   go_wp2
   go_ret;exact⟨by rw[uH E];rfl,rfl⟩
def a1y(x:Hp)(y:Wd):Bool:=(y.k == 2) && ((x.c y.a.toNat).J == 0)
theorem a0c:a1y x y=true↔cZ x y:=by simp [a1y,cZ]
theorem a0z(x:Hp)(b:Nat)(y:Wd)(w:World)(h:HAt w b x ar kr ac kc ag kg)(hy:y.k=2->0<=y.a/\y.a<x.A.length):
  Calls Tryz.prog 209 #[.pointer (some ⟨b,0,none⟩),y.v] w λe w'=>e=.returned (.bool (a1y x y))/\Ext w w':=by
 cases q:(y.k == 2)
 ·have E:=uU (show a1y x y=false by simp [a1y,q]);have c4:=h.c4;have lc:=h.lc;clear h hy;go_enter Tryz.func209,Tryz.ntmps209;go_wp2_with fail;go_quiet (fail);go_wp2_with fail;go_ret;exact⟨by rw[uH E];rfl,((Ext.refl w).alloc _).drewN _⟩
 ·have q1:y.k=2:=by simpa using q
  obtain⟨h0,h1⟩:=hy q1;obtain⟨i,hi⟩:=Int.eq_ofNat_of_zero_le h0;have E:=uU (show a1y x y=((x.c i).J == 0) by simp [a1y,q1,hi]);obtain⟨b',o,rfl,vp,p0,p1,p2,p3,p4,p5,_⟩:=h.C i (by omega);have c4:=h.c4;have lc:=h.lc;have hb:b<w.heap.size:=uL c4;have hb':b'<w.heap.size:=uL p5;have hi0:(0:Int)<=(i:Int):=by omega
  have hi1:(i:Int)<(x.A.length:Int):=by omega
  clear h hy h0 h1;go_enter Tryz.func209,Tryz.ntmps209;go_wp2_with fail;go_quiet (fail);go_wp2_with fail;go_ret;exact⟨by rw[uH E];rfl,((Ext.refl w).alloc _).drewN _⟩
def qQ(x:Hp)(y:Wd)(m:Bool):Bool:=dJ y x.A.length && (!(y.k == 2) || (if (x.c y.a.toNat).st=2 then m else ((x.c y.a.toNat).st == 1) && !a0n x y.a.toNat))
theorem a1n{m:Bool}{p:Prop}(hm:m=true↔p):qQ x y m=true↔cL x y p:=by
 unfold qQ cL;rw[Bool.and_eq_true,a0j];refine and_congr_right λ_=>?_
 by_cases h2:y.k=2
 ·by_cases hs:(x.c y.a.toNat).st=2
  ·simp [h2,hs,hm]
  ·by_cases h1:(x.c y.a.toNat).st=1
   ·have:a0n x y.a.toNat=false↔¬hY x y.a.toNat:=by rw[<-a2b];simp
    simp [h2,h1,this]
   ·simp [h2,hs,h1]
 ·simp [h2]
theorem a5z(x:Hp)(b:Nat)(y:Wd)(m:Bool)(w:World)(h:HAt w b x ar kr ac kc ag kg):
  Calls Tryz.prog 205 #[.pointer (some ⟨b,0,none⟩),y.v,.bool m] w λe w'=>e=.returned (.bool (qQ x y m))/\Ext w w':=by
 have c4:=h.c4;have lc:=h.lc;have hb:b<w.heap.size:=uL c4;have hb2:b<w.heap.size+1:=by omega
 go_enter Tryz.func205,Tryz.ntmps205;go_wp2_with fail
 go_region_held3 (λw'=>w'.cell? ⟨w.heap.size,0,none⟩=some (iv y.k)/\w'.cell? ⟨w.heap.size,1,none⟩=some (iv y.n)/\w'.cell? ⟨w.heap.size,2,none⟩=some (iv y.a)/\w'.cell? ⟨b,4,none⟩=some (.slice ac x.A.length kc)) (first | (simp [*];done) | go_keep)
    (first | (go_at_call 207;refine(a1r y x.A.length _).mono ?_;rintro e w1 ⟨rfl,hq1⟩;have hc1:=(cD hq1).1;simp only [World.size_drew,World.size_alloc] at hc1))
 rename_i hHeld;have x1:Ext w w1:=Ext.trans (((Ext.refl w).alloc _).drew) hq1;have z1:w.heap.size<w1.heap.size:=by have:=hq1.size;simp at this;omega
 cases qf:dJ y x.A.length
 ·have E:=uU (show qQ x y m=false by simp [qQ,qf]);go_wp2_with fail;go_ret;exact⟨by rw[uH E];rfl,x1⟩
 cases qk:(y.k == 2)
 ·have E:=uU (show qQ x y m=true by simp [qQ,qf,qk]);go_wp2_with fail;go_ret;exact⟨by rw[uH E];rfl,x1⟩
 have q1:y.k=2:=by simpa using qk
 have hf:=a0j.1 qf;unfold uE at hf;have hr:0<=y.a/\y.a<x.A.length:=by omega
 have E0:=uU (show qQ x y m=(if (x.c y.a.toNat).st=2 then m else ((x.c y.a.toNat).st == 1) && !a0n x y.a.toNat) by simp [qQ,qf,q1]);have h1:=h.ext x1;have hd:=uU (λw' (e:Ext w1 w')=>a8w x b y.a w' (h1.ext e) hr.1 hr.2);obtain⟨i,hi⟩:=Int.eq_ofNat_of_zero_le hr.1;rw[hi] at hd E0;rw[Int.toNat_natCast] at E0;obtain⟨b',o,ap,kp,rfl,p0,p1,p2,p3,p4,p5,p6,p7,lp,P⟩:=h1.cell i (by omega);clear P;have d4:=h1.c4;have hi0:(0:Int)<=(i:Int):=by omega
 have hi1:(i:Int)<(x.A.length:Int):=by omega
 have hb3:b<w1.heap.size:=uL d4;have hb4:b'<w1.heap.size:=uL p0;clear h h1 c4 hf hr hb hb2;go_wp2_with fail;have a2:w1.cell? ⟨w.heap.size,2,none⟩=some (iv i):=by rw[hHeld.2.2.1,hi]
 clear hHeld hc1;go_region_held3 (λw'=>w'.cell? ⟨w.heap.size,2,none⟩=some (iv i)/\w'.cell? ⟨b,4,none⟩=some (.slice (some ⟨b',o,none⟩) x.A.length kc)/\w'.cell? ⟨b',o+i*8,none⟩=some (iv (x.c i).st)/\w'.cell? ⟨b',o+i*8+1,none⟩=some (iv (x.c i).kind)/\w'.cell? ⟨b',o+i*8+2,none⟩=some (iv (x.c i).T)/\w'.cell? ⟨b',o+i*8+3,none⟩=some (iv (x.c i).U)/\w'.cell? ⟨b',o+i*8+4,none⟩=some (iv (x.c i).born)/\w'.cell? ⟨b',o+i*8+5,none⟩=some (iv (x.c i).J)/\w'.cell? ⟨b',o+i*8+6,none⟩=some (iv (x.c i).to)/\w'.cell? ⟨b',o+i*8+7,none⟩=some (.slice ap (x.c i).F.length kp)) (first | (simp [*];done) | go_keep) (fail);have x2:∀o1:Obj,Ext w (w1.alloc o1).drew:=λo1=>(x1.alloc o1).drew
 have y2:∀o1:Obj,Ext w1 (w1.alloc o1).drew:=λo1=>((Ext.refl w1).alloc o1).drew
 cases qs:((x.c i).st == 2)
 ·have qs':¬(x.c i).st=2:=by simpa using qs
  have E:=uU (show qQ x y m=(((x.c i).st == 1) && !a0n x i) by rw[uH E0,if_neg qs']);cases qu:((x.c i).st == 1)
  ·go_wp2_with fail;go_ret;exact⟨by rw[uH E,qu];rfl,x2 _⟩
  ·have hd2:=uU (hd _ (y2 (.cells #[.int .i64 (x.c i).st,.int .i64 (x.c i).kind,.int .i64 (x.c i).T,.int .i64 (x.c i).U,.int .i64 (x.c i).born,.int .i64 (x.c i).J,.int .i64 (x.c i).to,.slice ap (x.c i).F.length kp] 62)));go_wp2_with (go_at_call 206;refine hd2.mono ?_;rintro e w' ⟨rfl,rfl⟩);go_ret;exact⟨by rw[uH E,qu];simp,x2 _⟩
 ·have qs':(x.c i).st=2:=by simpa using qs
  have E:=uU (show qQ x y m=m by rw[uH E0,if_pos qs']);clear qs';go_wp2_with fail;go_ret;exact⟨by rw[uH E];rfl,x2 _⟩
end Go.Proofs.YtddkhnclmeikfaaGreat
