import Derived.Test.YtddkhnclmeikfaaGreatHx
set_option maxRecDepth 100000
set_option maxHeartbeats 1000000
namespace Go.Proofs.YtddkhnclmeikfaaGreat
open Go.RowKit
attribute [local go_sem ↓] Go.wp_at_zero Go.wp_at_succ
variable{ar ac ag:Option Addr}{kr kc kg i k n:Nat}{x:Hp}{w:World}{lo hi:Int}
theorem Ext.drewN{a:World}(h:Ext a w)(n:Nat):Ext a (w.drewN n):=below_drewN h n
theorem dJ(n lo hi:Int)(r:Bool)(h:uK n lo hi=r)(w:World):Calls Tryz.prog 60 #[.int .i64 n,.int .i64 lo,.int .i64 hi] w λe w'=>e=.returned (.bool r)/\w'=w:=by
 rw[<-h];exact dX n lo hi w
theorem a3i{P:Program}{f:FuncId}{args:Array Value}{v:Value}(h:Calls P f args (w.drewN (k+n)) λe w'=>e=.returned v/\w'=w.drewN (k+n)):
  Calls P f args (w.drewN (k+n)) λe w''=>e=.returned v/\∃m,w''=w.drewN (k+m):=h.mono λ_ _ ⟨he,hm⟩=>⟨he,n,hm⟩
theorem dC{n:Int}(h:uK n lo hi=true):lo<=n/\n<=hi:=by simpa [uK] using h
theorem a0d{n:Int}(h:uK n lo hi=false):¬(lo<=n/\n<=hi):=by unfold uK at h;exact of_decide_eq_false h
theorem c4d(x:Hp)(b:Nat)(w:World)(h:HAt w b x ar kr ac kc ag kg)(q0:uK x.room 1 4000=false):
  Calls Tryz.prog 126 #[.pointer (some ⟨b,0,none⟩)] w λe w'=>e=.returned (.bool false)/\Ext w w':=by
 obtain⟨c0,c1,c2,c3,c4,c5,c6,c7,c8,c9,c10,c11,c12,lr,lc,lg,R,C,G⟩:=h;clear R C G;go_enter Tryz.func126,Tryz.ntmps126;go_wp2_with fail;go_quiet ((go_at_call 60;exact Calls.quiet_of_same (dX _ _ _ _)));go_wp2_with fail;go_ret;exact⟨rfl,by repeat (first | exact Ext.refl _ | refine Ext.drewN ?_ _)⟩
theorem c4e(x:Hp)(b:Nat)(w:World)(h:HAt w b x ar kr ac kc ag kg)(q0:uK x.room 1 4000=true)(q1:((x.regs.length:Int) != 16)=true):
  Calls Tryz.prog 126 #[.pointer (some ⟨b,0,none⟩)] w λe w'=>e=.returned (.bool false)/\Ext w w':=by
 obtain⟨c0,c1,c2,c3,c4,c5,c6,c7,c8,c9,c10,c11,c12,lr,lc,lg,R,C,G⟩:=h;clear R C G;have p0:=dC q0;go_enter Tryz.func126,Tryz.ntmps126;go_wp2_with fail;go_quiet ((go_at_call 60;exact Calls.quiet_of_same (dX _ _ _ _)));go_wp2_with fail;go_ret;exact⟨rfl,by repeat (first | exact Ext.refl _ | refine Ext.drewN ?_ _)⟩
theorem c4f(x:Hp)(b:Nat)(w:World)(h:HAt w b x ar kr ac kc ag kg)(q0:uK x.room 1 4000=true)(q1:((x.regs.length:Int) != 16)=false)(q2:decide (2*x.room<(x.cells.length:Int))=true):
  Calls Tryz.prog 126 #[.pointer (some ⟨b,0,none⟩)] w λe w'=>e=.returned (.bool false)/\Ext w w':=by
 obtain⟨c0,c1,c2,c3,c4,c5,c6,c7,c8,c9,c10,c11,c12,lr,lc,lg,R,C,G⟩:=h;clear R C G;have p0:=dC q0;go_enter Tryz.func126,Tryz.ntmps126;go_wp2_with fail;go_quiet ((go_at_call 60;exact Calls.quiet_of_same (dX _ _ _ _)));go_wp2_with fail;go_ret;exact⟨rfl,by repeat (first | exact Ext.refl _ | refine Ext.drewN ?_ _)⟩
theorem c4g(x:Hp)(b:Nat)(w:World)(h:HAt w b x ar kr ac kc ag kg)(q0:uK x.room 1 4000=true)(q1:((x.regs.length:Int) != 16)=false)(q2:decide (2*x.room<(x.cells.length:Int))=false)(q3:decide (x.cells.length<x.gray.length)=true):
  Calls Tryz.prog 126 #[.pointer (some ⟨b,0,none⟩)] w λe w'=>e=.returned (.bool false)/\Ext w w':=by
 obtain⟨c0,c1,c2,c3,c4,c5,c6,c7,c8,c9,c10,c11,c12,lr,lc,lg,R,C,G⟩:=h;clear R C G;have p0:=dC q0;go_enter Tryz.func126,Tryz.ntmps126;go_wp2_with fail;go_quiet ((go_at_call 60;exact Calls.quiet_of_same (dX _ _ _ _)));go_wp2_with fail;go_ret;exact⟨rfl,by repeat (first | exact Ext.refl _ | refine Ext.drewN ?_ _)⟩
theorem c4h(x:Hp)(b:Nat)(w:World)(h:HAt w b x ar kr ac kc ag kg)(q0:uK x.room 1 4000=true)(q1:((x.regs.length:Int) != 16)=false)(q2:decide (2*x.room<(x.cells.length:Int))=false)(q3:decide (x.cells.length<x.gray.length)=false)(q4:uK x.born 0 1000000000=false):
  Calls Tryz.prog 126 #[.pointer (some ⟨b,0,none⟩)] w λe w'=>e=.returned (.bool false)/\Ext w w':=by
 obtain⟨c0,c1,c2,c3,c4,c5,c6,c7,c8,c9,c10,c11,c12,lr,lc,lg,R,C,G⟩:=h;clear R C G;have p0:=dC q0;go_enter Tryz.func126,Tryz.ntmps126;go_wp2_with fail;go_quiet ((go_at_call 60;exact Calls.quiet_of_same (dX _ _ _ _)));go_wp2_with (go_at_call 60;refine(dX _ _ _ _).mono ?_;rintro e w' ⟨rfl,rfl⟩);go_ret;exact⟨rfl,by repeat (first | exact Ext.refl _ | refine Ext.drewN ?_ _)⟩
theorem c4i(x:Hp)(b:Nat)(w:World)(h:HAt w b x ar kr ac kc ag kg)(q0:uK x.room 1 4000=true)(q1:((x.regs.length:Int) != 16)=false)(q2:decide (2*x.room<(x.cells.length:Int))=false)(q3:decide (x.cells.length<x.gray.length)=false)(q4:uK x.born 0 1000000000=true)(q5:uK x.rounds 0 1000000000=false):
  Calls Tryz.prog 126 #[.pointer (some ⟨b,0,none⟩)] w λe w'=>e=.returned (.bool false)/\Ext w w':=by
 obtain⟨c0,c1,c2,c3,c4,c5,c6,c7,c8,c9,c10,c11,c12,lr,lc,lg,R,C,G⟩:=h;clear R C G;have p0:=dC q0;go_enter Tryz.func126,Tryz.ntmps126;go_wp2_with fail;go_quiet ((go_at_call 60;exact Calls.quiet_of_same (dX _ _ _ _)));go_wp2_with (go_at_call 60;refine(dX _ _ _ _).mono ?_;rintro e w' ⟨rfl,rfl⟩);go_ret;exact⟨rfl,by repeat (first | exact Ext.refl _ | refine Ext.drewN ?_ _)⟩
theorem c4j(x:Hp)(b:Nat)(w:World)(h:HAt w b x ar kr ac kc ag kg)(q0:uK x.room 1 4000=true)(q1:((x.regs.length:Int) != 16)=false)(q2:decide (2*x.room<(x.cells.length:Int))=false)(q3:decide (x.cells.length<x.gray.length)=false)(q4:uK x.born 0 1000000000=true)(q5:uK x.rounds 0 1000000000=true)(q6:uK x.forced 0 1000000000=false):
  Calls Tryz.prog 126 #[.pointer (some ⟨b,0,none⟩)] w λe w'=>e=.returned (.bool false)/\Ext w w':=by
 obtain⟨c0,c1,c2,c3,c4,c5,c6,c7,c8,c9,c10,c11,c12,lr,lc,lg,R,C,G⟩:=h;clear R C G;have p0:=dC q0;go_enter Tryz.func126,Tryz.ntmps126;go_wp2_with fail;go_quiet ((go_at_call 60;exact Calls.quiet_of_same (dX _ _ _ _)));go_wp2_with (go_at_call 60;refine(dX _ _ _ _).mono ?_;rintro e w' ⟨rfl,rfl⟩);go_ret;exact⟨rfl,by repeat (first | exact Ext.refl _ | refine Ext.drewN ?_ _)⟩
def a8e(x:Hp)(i:Nat):Bool:=(x.c i).st == 1
def dW(w:Wd)(n:Nat):Bool:=if w.k=0 then w.n == 0 && w.a == 0 else if w.k=1 then w.a == 0 else if w.k=2 then w.n == 0 && decide (0<=w.a) && decide (w.a<n) else false
def a0m(x:Hp)(i:Nat):Bool:=(x.phase == 3) && decide (x.hand<=i) && ((x.c i).st == 1) && ((x.c i).color == 0)
def eN(x:Hp)(i k:Nat):Bool:=if x.phase=4 then false else if x.phase=5 then decide ((i:Int)<x.hand) || ((i:Int) == x.hand && decide ((k:Int)<x.sub)) else true
theorem b5i:a8e x i=true↔(x.c i).st=1:=by simp [a8e]
theorem a1y:a0m x i=true↔cL x i:=by simp [a0m,cL,and_assoc]
theorem a0h{w:Wd}:dW w n=true↔uJ w n:=by
 unfold dW uJ;by_cases h0:w.k=0
 ·simp [h0]
 ·by_cases h1:w.k=1
  ·simp [h1]
  ·by_cases h2:w.k=2
   ·simp [h2,and_assoc]
   ·simp [h0,h1,h2]
theorem b1j:eN x i k=true↔cD x i k:=by
 unfold eN cD;by_cases h4:x.phase=4
 ·simp [h4]
 ·by_cases h5:x.phase=5
  ·simp [h5]
  ·simp [h4,h5]
theorem a5p(x:Hp)(b:Nat)(a:Int)(w:World)(h:HAt w b x ar kr ac kc ag kg)(h0:0<=a)(h1:a<x.cells.length):
  Calls Tryz.prog 203 #[.pointer (some ⟨b,0,none⟩),.int .i64 a] w λe w'=>e=.returned (.bool (a8e x a.toNat))/\w'=w:=by
 obtain⟨i,rfl⟩:=Int.eq_ofNat_of_zero_le h0;rw[Int.toNat_natCast];obtain⟨b',o,rfl,vp,p0,_⟩:=h.C i (by omega);have c4:=h.c4;have lc:=h.lc;clear h;go_enter Tryz.func203,Tryz.ntmps203
 go_wp2
 go_ret;exact⟨rfl,rfl⟩
theorem a1n(x:Wd)(n:Nat)(w:World):Calls Tryz.prog 207 #[x.v,.int .i64 n] w λe w'=>e=.returned (.bool (dW x n))/\Ext w w':=by
 by_cases h0:x.k=0
 ·have e:dW x n=(x.n == 0 && x.a == 0):=by simp [dW,h0]
  have E:=uU e;clear e;cases q:(x.n == 0)
  all_goals
   go_enter Tryz.func207,Tryz.ntmps207
   go_wp2
   go_ret;exact⟨by rw[uH E];simp [q],(Ext.refl w).alloc _⟩
 ·have k0:(x.k == 0)=false:=by simp [h0]
  by_cases h1:x.k=1
  ·have e:dW x n=(x.a == 0):=by simp [dW,h1]
   have E:=uU e;clear e h0 k0;go_enter Tryz.func207,Tryz.ntmps207
   go_wp2
   go_ret;exact⟨by rw[uH E];simp,(Ext.refl w).alloc _⟩
  ·have k1:(x.k == 1)=false:=by simp [h1]
   by_cases h2:x.k=2
   ·have e:dW x n=(x.n == 0 && decide (0<=x.a) && decide (x.a<n)):=by simp [dW,h2]
    have E:=uU e;clear e h0 k0 h1 k1;cases q:(x.n == 0)
    ·go_enter Tryz.func207,Tryz.ntmps207
     go_wp2
     go_ret;exact⟨by rw[uH E];simp [q],(Ext.refl w).alloc _⟩
    ·by_cases q2:0<=x.a
     ·go_enter Tryz.func207,Tryz.ntmps207
      go_wp2
      go_ret;exact⟨by rw[uH E];simp [q,q2],(Ext.refl w).alloc _⟩
     ·have q3:decide (0<=x.a)=false:=by simp;omega
      go_enter Tryz.func207,Tryz.ntmps207
      go_wp2
      go_ret;exact⟨by rw[uH E,q3];simp,(Ext.refl w).alloc _⟩
   ·have k2:(x.k == 2)=false:=by simp [h2]
    have e:dW x n=false:=by simp [dW,h0,h1,h2]
    have E:=uU e;clear e;go_enter Tryz.func207,Tryz.ntmps207
    go_wp2
    go_ret;exact⟨by rw[uH E];rfl,(Ext.refl w).alloc _⟩
theorem a9c(x:Hp)(b:Nat)(a:Int)(w:World)(h:HAt w b x ar kr ac kc ag kg)(h0:0<=a)(h1:a<x.cells.length):
  Calls Tryz.prog 206 #[.pointer (some ⟨b,0,none⟩),.int .i64 a] w λe w'=>e=.returned (.bool (a0m x a.toNat))/\w'=w:=by
 obtain⟨i,rfl⟩:=Int.eq_ofNat_of_zero_le h0;rw[Int.toNat_natCast];have hu:=a5p x b i w h h0 h1;rw[Int.toNat_natCast] at hu;have HU:=uU hu;clear hu;obtain⟨b',o,rfl,vp,p0,p1,p2,p3,p4,p5,_⟩:=h.C i (by omega);have c4:=h.c4;have c5:=h.c5;have c6:=h.c6;have lc:=h.lc;clear h;cases q1:(x.phase == 3)
 ·go_enter Tryz.func206,Tryz.ntmps206
  go_wp2
  go_ret;exact⟨by simp [a0m,q1],rfl⟩
 ·cases q2:decide (x.hand<=(i:Int))
  ·go_enter Tryz.func206,Tryz.ntmps206
   go_wp2
   go_ret;exact⟨by simp [a0m,q1,q2],rfl⟩
  ·cases q3:a8e x i
   ·go_enter Tryz.func206,Tryz.ntmps206;go_wp2_with (go_at_call 203;refine HU.mono ?_;rintro e w' ⟨rfl,rfl⟩);go_ret;exact⟨by unfold a8e at q3;simp [a0m,q3],rfl⟩
   ·go_enter Tryz.func206,Tryz.ntmps206;go_wp2_with (go_at_call 203;refine HU.mono ?_;rintro e w' ⟨rfl,rfl⟩);go_ret;exact⟨by unfold a8e at q3;simp [a0m,q1,q2,q3],rfl⟩
theorem b6n(x:Hp)(b i k:Nat)(w:World)(h:HAt w b x ar kr ac kc ag kg):
  Calls Tryz.prog 208 #[.pointer (some ⟨b,0,none⟩),.int .i64 i,.int .i64 k] w λe w'=>e=.returned (.bool (eN x i k))/\w'=w:=by
 have c5:=h.c5;have c6:=h.c6;have c7:=h.c7;clear h;by_cases h4:x.phase=4
 ·have E:=uU (show eN x i k=false by simp [eN,h4]);go_enter Tryz.func208,Tryz.ntmps208
  go_wp2
  go_ret;exact⟨by rw[uH E];rfl,rfl⟩
 ·have k4:(x.phase == 4)=false:=by simp [h4]
  by_cases h5:x.phase=5
  ·have E:=uU (show eN x i k=(decide ((i:Int)<x.hand) || ((i:Int) == x.hand && decide ((k:Int)<x.sub))) by simp [eN,h5]);clear h4 k4;cases q1:decide ((i:Int)<x.hand)
   ·cases q2:((i:Int) == x.hand)
    ·go_enter Tryz.func208,Tryz.ntmps208
     go_wp2
     go_ret;exact⟨by rw[uH E,q1,q2];simp,rfl⟩
    ·go_enter Tryz.func208,Tryz.ntmps208
     go_wp2
     go_ret;exact⟨by rw[uH E,q1,q2];simp,rfl⟩
   ·go_enter Tryz.func208,Tryz.ntmps208
    go_wp2
    go_ret;exact⟨by rw[uH E,q1];simp,rfl⟩
  ·have k5:(x.phase == 5)=false:=by simp [h5]
   have E:=uU (show eN x i k=true by simp [eN,h4,h5]);go_enter Tryz.func208,Tryz.ntmps208
   go_wp2
   go_ret;exact⟨by rw[uH E];rfl,rfl⟩
end Go.Proofs.YtddkhnclmeikfaaGreat
