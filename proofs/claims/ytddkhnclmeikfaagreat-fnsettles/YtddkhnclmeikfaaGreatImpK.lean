import Derived.Test.YtddkhnclmeikfaaGreatSpecE
set_option maxRecDepth 100000
set_option maxHeartbeats 1000000
namespace Go.Proofs.YtddkhnclmeikfaaGreat
open Go.RowKit
attribute [local go_sem ↓] Go.wp_at_zero Go.wp_at_succ
variable{ag an ar ac:Option Addr}{kg kn kr kc:Nat}{n lo hi:Int}
structure VAt(w:World)(b:Nat)(x:Hp)(ar:Option Addr)(kr:Nat)(ac:Option Addr)(kc:Nat)(ag:Option Addr)(kg:Nat)(an:Option Addr)(kn:Nat):Prop where
 H:HAt w b x ar kr ac kc ag kg
 n13:w.cell? ⟨b,13,none⟩=some (.slice an x.cells.length kn)
 N:∀i,i<x.cells.length->∃bn on bc oc,an=some ⟨bn,on,none⟩/\ac=some ⟨bc,oc,none⟩/\w.cell? ⟨bn,on+i*2,none⟩=some (iv i)/\w.cell? ⟨bn,on+i*2+1,none⟩=some (.pointer (some ⟨bc,oc+i*8,none⟩))
theorem VAt.ext{w w':World}{b:Nat}{x:Hp}(h:VAt w b x ar kr ac kc ag kg an kn)(e:Ext w w'):VAt w' b x ar kr ac kc ag kg an kn:=
 ⟨h.H.ext e,e.keep h.n13,λi hi=>let ⟨bn,on,bc,oc,a,a',p,q⟩:=h.N i hi;⟨bn,on,bc,oc,a,a',e.keep p,e.keep q⟩⟩
theorem b5k(c:Cl)(bn q bc r:Nat)(ap:Option Addr)(kp:Nat)(w:World)(m1:w.cell? ⟨bn,q+1,none⟩=some (.pointer (some ⟨bc,r,none⟩)))(p7:w.cell? ⟨bc,r+7,none⟩=some (.slice ap c.prs.length kp))(lp:c.prs.length<=35184372088832):
  Calls Tryz.prog 119 #[.pointer (some ⟨bn,q,none⟩)] w λe w'=>e=.returned (.int .i64 (1+(c.prs.length:Int)))/\w'=w:=by
 go_enter Tryz.func119,Tryz.ntmps119
 go_wp2
 go_ret;exact⟨rfl,rfl⟩
theorem b6p(x:Hp)(b:Nat)(w:World)(h:VAt w b x ar kr ac kc ag kg an kn)(hn:x.cells.length<=8000)(hp:∀i,i<x.cells.length->(x.c i).prs.length<=200):
  Calls Tryz.prog 109 #[.pointer (some ⟨b,0,none⟩)] w λe w'=>∃r:Bool,e=.returned (.bool r)/\(r=true↔R3 x)/\Ext w w':=by
 have n13:=h.n13;have c0:=h.H.c0;have c1:=h.H.c1;go_enter Tryz.func109,Tryz.ntmps109;go_wp2_with fail
 go_loop [3,10] (λn i=>∃(k:Nat) (u:Nat),k<=x.cells.length/\i=.int .i64 k/\n=.int .i64 u/\Hid (u=dQ (x.cells.take k))/\u<=201*k) (λ_ i=>x.cells.length-(intOf i).toNat)
 case atStart=>exact⟨0,0,Nat.zero_le _,rfl,rfl,by show _=_;simp [dQ],by omega⟩
 case round=>
  obtain⟨k,u,hk,rfl,rfl,hu,hu2⟩:=hrel;by_cases hlt:k<x.cells.length
  ·obtain⟨b',o,ap,kp,rfl,p0,p1,p2,p3,p4,p5,p6,p7,lp,P⟩:=h.H.cell k hlt;obtain⟨bn,on,bc,oc,rfl,e2,m0,m1⟩:=h.N k hlt;cases e2;have hpk:=hp k hlt;clear P;have hk0:(0:Int)<=(k:Int):=by omega
   have hk1:(k:Int)<(x.cells.length:Int):=by omega
   have hut:=a5q x.cells k hlt;rw[Hp.c_eq] at hut;cases qs:((x.c k).st == 1)
   ·have qs':¬(x.c k).st=1:=by simpa using qs
    have H:Hid (u=dQ (x.cells.take (k+1))):=by have:=uH hu;show _=_;rw[hut,cH,if_neg qs'];omega
    clear hut;go_wp2_with fail
    go_round
    case rel=>exact⟨k+1,u,by omega,by go_num,rfl,H,by omega⟩
    case measure=>simp [intOf];omega
   ·have qs':(x.c k).st=1:=by simpa using qs
    have H:Hid (u+(1+(x.c k).prs.length)=dQ (x.cells.take (k+1))):=by have:=uH hu;show _=_;rw[hut,cH,if_pos qs'];omega
    clear hut qs';go_wp2_with fail;refine(b5k (x.c k) bn (on+k*2) _ _ ap kp _ m1 p7 lp).mono ?_;rintro e w1 ⟨rfl,rfl⟩;go_wp2_with fail
    go_round
    case rel=>exact⟨k+1,u+(1+(x.c k).prs.length),by omega,by go_num,by go_num,H,by omega⟩
    case measure=>simp [intOf];omega
  ·have hk2:k=x.cells.length:=by omega
   have H:=uU (show u=dQ x.cells by have:=uH hu;rw[hk2,List.take_length] at this;exact this);clear hk2;cases t1:(x.used == (u:Int))
   ·have N:=uU (show ¬R3 x from λr=>by have:=uH H;have:=r.1;simp at t1;omega);go_wp2_with fail;go_ret
    first | (exact Or.inl ⟨rfl,N,Ext.refl _⟩) | (exact⟨false,rfl,⟨λf=>by simp at f,λr=>(N r).elim⟩,Ext.refl _⟩)
   ·by_cases t2:(u:Int)<=x.room
    ·have Y:=uU (show R3 x by
      have e1:=uH H;have e2:x.used=(u:Int):=by simpa using t1
      exact⟨by rw[e2,e1],by omega⟩)
     go_wp2_with fail;go_ret
     first | (exact Or.inr ⟨rfl,Y,Ext.refl _⟩) | (exact⟨true,rfl,⟨λ_=>uH Y,λ_=>rfl⟩,Ext.refl _⟩)
    ·have t3:decide ((u:Int)<=x.room)=false:=by simp;omega
     have N:=uU (show ¬R3 x from λr=>by
      have e2:x.used=(u:Int):=by simpa using t1
      have:=r.2;omega)
     clear t2;go_wp2_with fail;go_ret
     first | (exact Or.inl ⟨by simp,N,Ext.refl _⟩) | (exact⟨false,by simp,⟨λf=>by simp at f,λr=>(N r).elim⟩,Ext.refl _⟩)
theorem b1x(x:Hp)(b:Nat)(w:World)(h:VAt w b x ar kr ac kc ag kg an kn):
  Calls Tryz.prog 114 #[.pointer (some ⟨b,0,none⟩)] w λe w'=>∃r:Bool,e=.returned (.bool r)/\(r=true↔R8 x)/\Ext w w':=by
 have n13:=h.n13;have c5:=h.H.c5;have lc:=h.H.lc;cases q1:(x.phase == 6)
 ·have Y:=uU (show R8 x from λi hi hb=>by simp [hb.1] at q1);have q1n:(x.phase != 6)=true:=by simpa using q1
  go_enter Tryz.func114,Tryz.ntmps114;go_wp2_with fail;go_ret
  first | (exact Or.inr ⟨rfl,Y,Ext.refl _⟩) | (exact⟨true,rfl,⟨λ_=>uH Y,λ_=>rfl⟩,Ext.refl _⟩)
 ·have q1n:(x.phase != 6)=false:=by simpa using q1
  have PH:=uU (show x.phase=6 by simpa using q1);go_enter Tryz.func114,Tryz.ntmps114;go_wp2_with fail;go_loopw [16] (λi wr=>∃(k:Nat),k<=x.cells.length/\i=.int .i64 k/\(∀j,j<k->¬(x.phase=6/\x.hand<=j/\(x.c j).st=2))/\Ext w wr) (λi _=>x.cells.length-(intOf i).toNat)
  case atStart=>exact⟨0,Nat.zero_le _,rfl,λj hj=>by omega,Ext.refl _⟩
  case round=>
   obtain⟨k,hk,rfl,hall,hbl⟩:=hrel;have HA:=uU hall;clear hall;by_cases hlt:k<x.cells.length
   ·have h1:=h.ext hbl;obtain⟨b',o,ap,kp,rfl,p0,p1,p2,p3,p4,p5,p6,p7,lp,P⟩:=h1.H.cell k hlt;obtain⟨bn,on,bc,oc,rfl,e2,m0,m1⟩:=h1.N k hlt;cases e2;have d6:=h1.H.c6;have d13:=h1.n13;clear P h1 n13 c5;have hk0:(0:Int)<=(k:Int):=by omega
    have hk1:(k:Int)<(x.cells.length:Int):=by omega
    have step:¬(x.phase=6/\x.hand<=k/\(x.c k).st=2)->Hid (∀j,j<k+1->¬(x.phase=6/\x.hand<=j/\(x.c j).st=2)):=λhn j hj=>by
     by_cases e:j=k
     ·subst e;exact hn
     ·exact HA j (by omega)
    cases q3:((x.c k).st == 2)
    ·have S:=step (by simp at q3;omega);clear step;go_wp2_with fail;go_quiet (fail);go_wp2_with fail;go_roundw
     case rel=>exact⟨k+1,by omega,by go_num,S,Ext.drewN hbl _⟩
     case measure=>simp [intOf];omega
    ·by_cases q2:x.hand<=(k:Int)
     ·have N:=uU (show ¬R8 x from λr=>r k hlt ⟨PH,q2,by simpa using q3⟩);clear step;go_wp2_with fail;go_quiet (fail);go_wp2_with fail;go_ret
      first | (exact Or.inl ⟨rfl,N,Ext.drewN hbl _⟩) | (exact⟨false,rfl,⟨λf=>by simp at f,λr=>(N r).elim⟩,Ext.drewN hbl _⟩)
     ·have S:=step (by omega);clear step;go_wp2_with fail;go_quiet (fail);go_wp2_with fail;go_roundw
      case rel=>exact⟨k+1,by omega,by go_num,S,Ext.drewN hbl _⟩
      case measure=>simp [intOf];omega
   ·have Y:=uU (show R8 x from λi hi=>uH HA i (by omega));go_wp2_with fail;go_ret
    first | (exact Or.inr ⟨rfl,Y,hbl⟩) | (exact⟨true,rfl,⟨λ_=>uH Y,λ_=>rfl⟩,hbl⟩)
def qJ(c:Cl):Bool:=(c.st == 1) && (c.color == 0)
def a0q(c:Cl):Bool:=(c.last == 1) || (c.last == 2)
theorem a3e{c:Cl}:a0q c=true↔cQ c:=by simp [a0q,cQ]
theorem a4x(c:Cl)(bn q bc r:Nat)(ap:Option Addr)(kp:Nat)(w:World)(m1:w.cell? ⟨bn,q+1,none⟩=some (.pointer (some ⟨bc,r,none⟩)))(h:CAt w bc r c ap kp):
  Calls Tryz.prog 146 #[.pointer (some ⟨bn,q,none⟩)] w λe w'=>e=.returned (.bool (qJ c))/\w'=w:=by
 have p0:=h.p0;have p5:=h.p5;clear h;cases t:(c.st == 1)
 all_goals
  go_enter Tryz.func146,Tryz.ntmps146
  go_wp2
  go_ret;exact⟨by simp [qJ,t],rfl⟩
theorem a2s(c:Cl)(bn q bc r:Nat)(ap:Option Addr)(kp:Nat)(w:World)(m1:w.cell? ⟨bn,q+1,none⟩=some (.pointer (some ⟨bc,r,none⟩)))(h:CAt w bc r c ap kp):
  Calls Tryz.prog 166 #[.pointer (some ⟨bn,q,none⟩)] w λe w'=>e=.returned (.bool (a0q c))/\w'=w:=by
 have p3:=h.p3;clear h;cases t:(c.last == 1)
 all_goals
  go_enter Tryz.func166,Tryz.ntmps166
  go_wp2
  go_ret;exact⟨by simp [a0q,t],rfl⟩
def a1s(x:Hp):Bool:=(x.phase == 1) || (x.phase == 2)
theorem b1n(x:Hp)(b:Nat)(w:World)(c5:w.cell? ⟨b,5,none⟩=some (iv x.phase)):
  Calls Tryz.prog 145 #[.pointer (some ⟨b,0,none⟩)] w λe w'=>e=.returned (.bool (a1s x))/\w'=w:=by
 cases t:(x.phase == 1)
 all_goals
  go_enter Tryz.func145,Tryz.ntmps145
  go_wp2
  go_ret;exact⟨by simp [a1s,t],rfl⟩
theorem c7k(c:Cl)(bn q bc r:Nat)(ap:Option Addr)(kp:Nat)(s:Bool)(hs:qJ c=s)(w:World)(m1:w.cell? ⟨bn,q+1,none⟩=some (.pointer (some ⟨bc,r,none⟩)))(h:CAt w bc r c ap kp):
  Calls Tryz.prog 146 #[.pointer (some ⟨bn,q,none⟩)] w λe w'=>e=.returned (.bool s)/\w'=w:=by
 rw[<-hs];exact a4x c bn q bc r ap kp w m1 h
theorem b2t(x:Hp)(b i:Nat)(w:World)(h:VAt w b x ar kr ac kc ag kg an kn)(hi:i<x.cells.length)(bn on:Nat)(ha:an=some ⟨bn,on,none⟩):
  Calls Tryz.prog 177 #[.pointer (some ⟨b,0,none⟩),.pointer (some ⟨bn,on+i*2,none⟩)] w λe w'=>e=.returned (.bool (a0m x i))/\Ext w w':=by
 obtain⟨bn',on',bc,oc,e1,rfl,m0,m1⟩:=h.N i hi;rw[ha] at e1;cases e1;obtain⟨bc',oc',ap,kp,e2,C⟩:=h.H.cell i hi;cases e2;have c5:=h.H.c5;have c6:=h.H.c6;have HW:=uU (λn s (hs:qJ (x.c i)=s)=>c7k (x.c i) bn (on+i*2) bc (oc+i*8) ap kp s hs (w.drewN n) (((Ext.refl w).drewN n).keep m1) (C.ext ((Ext.refl w).drewN n)));clear h C;cases t1:(x.phase == 3)
 ·go_enter Tryz.func177,Tryz.ntmps177;go_wp2_with fail;go_quiet (fail);go_wp2_with fail;go_ret;exact⟨by simp [a0m,t1],(Ext.refl w).drewN _⟩
 ·cases t2:qJ (x.c i)
  ·go_enter Tryz.func177,Tryz.ntmps177;go_wp2_with fail;go_quiet ((go_at_call 146;exact Calls.quiet_of_same (HW _ _ t2)));go_wp2_with fail;go_ret;exact⟨by unfold qJ at t2;unfold a0m;cases q:((x.c i).st == 1) <;> simp_all,(Ext.refl w).drewN _⟩
  ·go_enter Tryz.func177,Tryz.ntmps177;go_wp2_with fail;go_quiet ((go_at_call 146;exact Calls.quiet_of_same (HW _ _ t2)));go_wp2_with fail;go_ret;exact⟨by unfold qJ at t2;unfold a0m;simp_all,(Ext.refl w).drewN _⟩
theorem a9j(x:Hp)(b bn q i:Nat)(w:World)(c5:w.cell? ⟨b,5,none⟩=some (iv x.phase))(c6:w.cell? ⟨b,6,none⟩=some (iv x.hand))(m0:w.cell? ⟨bn,q,none⟩=some (iv i)):
  Calls Tryz.prog 184 #[.pointer (some ⟨b,0,none⟩),.pointer (some ⟨bn,q,none⟩)] w λe w'=>e=.returned (.bool ((x.phase == 2) || decide ((i:Int)<x.hand)))/\Ext w w':=by
 cases t1:(x.phase == 2)
 all_goals
  go_enter Tryz.func184,Tryz.ntmps184;go_wp2_with fail;go_quiet (fail);go_wp2_with fail;go_ret;exact⟨by simp,(Ext.refl w).drewN _⟩
theorem c1g(x:Hp)(b bn q i k:Nat)(w:World)(c5:w.cell? ⟨b,5,none⟩=some (iv x.phase))(c6:w.cell? ⟨b,6,none⟩=some (iv x.hand))(c7:w.cell? ⟨b,7,none⟩=some (iv x.sub))(m0:w.cell? ⟨bn,q,none⟩=some (iv i)):
  Calls Tryz.prog 230 #[.pointer (some ⟨b,0,none⟩),.pointer (some ⟨bn,q,none⟩),.int .i64 k] w λe w'=>e=.returned (.bool (eN x i k))/\Ext w w':=by
 cases h4:(x.phase == 4)
 ·cases h5:(x.phase == 5)
  ·have E:=uU (show eN x i k=true by simp at h4 h5;simp [eN,h4,h5]);go_enter Tryz.func230,Tryz.ntmps230;go_wp2_with fail;go_ret;exact⟨by rw[uH E];rfl,Ext.refl w⟩
  ·have E:=uU (show eN x i k=(decide ((i:Int)<x.hand) || ((i:Int) == x.hand && decide ((k:Int)<x.sub))) by simp at h5;simp [eN,h5]);cases q1:decide ((i:Int)<x.hand)
   ·cases q2:((i:Int) == x.hand)
    ·go_enter Tryz.func230,Tryz.ntmps230;go_wp2_with fail;go_quiet (fail);go_wp2_with fail;go_ret;exact⟨by rw[uH E,q1,q2];simp,(Ext.refl w).drewN _⟩
    ·go_enter Tryz.func230,Tryz.ntmps230;go_wp2_with fail;go_quiet (fail);go_wp2_with fail;go_ret;exact⟨by rw[uH E,q1,q2];simp,(Ext.refl w).drewN _⟩
   ·go_enter Tryz.func230,Tryz.ntmps230;go_wp2_with fail;go_quiet (fail);go_wp2_with fail;go_ret;exact⟨by rw[uH E,q1];simp,(Ext.refl w).drewN _⟩
 ·have E:=uU (show eN x i k=false by simp at h4;simp [eN,h4]);go_enter Tryz.func230,Tryz.ntmps230;go_wp2_with fail;go_ret;exact⟨by rw[uH E];rfl,Ext.refl w⟩
theorem uW(h:uQ n lo hi=true):lo<=n/\n<=hi:=by simpa [uQ] using h
theorem a0a(h:uQ n lo hi=false):¬(lo<=n/\n<=hi):=by unfold uQ at h;exact of_decide_eq_false h
theorem uD(n lo hi:Int)(r:Bool)(h:uQ n lo hi=r)(w:World):Calls Tryz.prog 78 #[.int .i64 n,.int .i64 lo,.int .i64 hi] w λe w'=>e=.returned (.bool r)/\w'=w:=by
 rw[<-h];exact c0y n lo hi w
theorem a8m(y:Wd)(b n:Nat)(an:Option Addr)(kn:Nat)(w:World)(c13:w.cell? ⟨b,13,none⟩=some (.slice an n kn))(hn:n<=35184372088832):
  Calls Tryz.prog 229 #[.pointer (some ⟨b,0,none⟩),y.v] w λe w'=>e=.returned (.bool (dW y n))/\Ext w w':=by
 have hb:b<w.heap.size:=uL c13;cases k0:(y.k == 0)
 ·cases k1:(y.k == 1)
  ·cases k2:(y.k == 2)
   ·have E:=uU (show dW y n=false by simp at k0 k1 k2;simp [dW,k0,k1,k2]);go_enter Tryz.func229,Tryz.ntmps229;go_wp2_with fail;go_ret;exact⟨by rw[uH E];rfl,(Ext.refl w).alloc _⟩
   ·cases q:(y.n == 0)
    ·have E:=uU (show dW y n=false by simp at k2;simp [dW,k2,q]);go_enter Tryz.func229,Tryz.ntmps229;go_wp2_with fail;go_quiet (fail);go_wp2_with fail;go_ret;exact⟨by rw[uH E];rfl,((Ext.refl w).alloc _).drewN _⟩
    ·cases t:uQ y.a 0 ((n:Int)-1)
     ·have E:=uU (show dW y n=false by
       have:=a0a t;simp at k2 q;simp [dW,k2,q];omega)
      go_enter Tryz.func229,Tryz.ntmps229;go_wp2_with fail;go_quiet ((go_at_call 78;refine Calls.quiet_of_same (uD _ _ _ false ?_ _);assumption));go_wp2_with fail;go_ret;exact⟨by rw[uH E];rfl,((Ext.refl w).alloc _).drewN _⟩
     ·have E:=uU (show dW y n=true by
       have:=uW t;simp at k2 q;simp [dW,k2,q];omega)
      go_enter Tryz.func229,Tryz.ntmps229;go_wp2_with fail;go_quiet ((go_at_call 78;refine Calls.quiet_of_same (uD _ _ _ true ?_ _);assumption));go_wp2_with fail;go_ret;exact⟨by rw[uH E];rfl,((Ext.refl w).alloc _).drewN _⟩
  ·have E:=uU (show dW y n=(y.a == 0) by simp at k1;simp [dW,k1]);go_enter Tryz.func229,Tryz.ntmps229;go_wp2_with fail;go_ret;exact⟨by rw[uH E];simp,(Ext.refl w).alloc _⟩
 ·have E:=uU (show dW y n=(y.n == 0 && y.a == 0) by simp at k0;simp [dW,k0]);cases q:(y.n == 0)
  all_goals
   go_enter Tryz.func229,Tryz.ntmps229;go_wp2_with fail;go_ret;exact⟨by rw[uH E];simp [q],(Ext.refl w).alloc _⟩
theorem b0p(y:Wd)(b:Nat)(w:World)(k2:(y.k == 2)=false):
  Calls Tryz.prog 199 #[.pointer (some ⟨b,0,none⟩),y.v] w λe w'=>e=.returned (.pointer none)/\Ext w w':=by
 have k2b:(y.k != 2)=true:=by simpa using k2
 go_enter Tryz.func199,Tryz.ntmps199;go_wp2_with fail;go_ret;exact⟨rfl,(Ext.refl w).alloc _⟩
theorem a7s(y:Wd)(b n bn on kn i:Nat)(w:World)(k2:(y.k == 2)=true)(c13:w.cell? ⟨b,13,none⟩=some (.slice (some ⟨bn,on,none⟩) n kn))(hn:i<n):
  Calls Tryz.prog 199 #[.pointer (some ⟨b,0,none⟩),.agg #[iv y.k,iv y.n,iv i]] w λe w'=>e=.returned (.pointer (some ⟨bn,on+i*2,none⟩))/\Ext w w':=by
 have hb:b<w.heap.size:=uL c13;have k2b:(y.k != 2)=false:=by simpa using k2
 have hi0:(0:Int)<=(i:Int):=by omega
 have hi1:(i:Int)<(n:Int):=by omega
 go_enter Tryz.func199,Tryz.ntmps199;go_wp2_with fail;go_quiet (fail);go_wp2_with fail;go_ret;exact⟨rfl,((Ext.refl w).alloc _).drewN _⟩
theorem b0q(x:Hp)(b:Nat)(y:Wd)(md:Bool)(w:World)(h:VAt w b x ar kr ac kc ag kg an kn):
  Calls Tryz.prog 176 #[.pointer (some ⟨b,0,none⟩),y.v,.bool md] w λe w'=>e=.returned (.bool (qU x y (!md)))/\Ext w w':=by
 have hb:b<w.heap.size:=uL h.n13;go_enter Tryz.func176,Tryz.ntmps176;go_wp2_with fail;refine(a8m y b x.cells.length an kn _ (Ext.keep ((Ext.refl w).alloc _) h.n13) h.H.lc).mono ?_;rintro e w1 ⟨rfl,hq1⟩;have x1:Ext w w1:=Ext.trans ((Ext.refl w).alloc _) hq1;have a0:=hq1.keep (b:=w.heap.size) (o:=0) (v:=iv y.k) (by simp [go_sem]);have a1:=hq1.keep (b:=w.heap.size) (o:=1) (v:=iv y.n) (by simp [go_sem]);have a2:=hq1.keep (b:=w.heap.size) (o:=2) (v:=iv y.a) (by simp [go_sem]);cases qf:dW y x.cells.length
 ·have E:=uU (show qU x y (!md)=false by simp [qU,qf]);go_wp2_with fail;go_ret;exact⟨by rw[uH E];rfl,x1⟩
 cases qk:(y.k == 2)
 ·have E:=uU (show qU x y (!md)=true by simp [qU,qf,qk]);go_wp2_with fail;refine(b0p y b _ qk).mono ?_;rintro e w2 ⟨rfl,hq2⟩;go_wp2_with fail;go_ret;exact⟨by rw[uH E];rfl,x1.trans hq2⟩
 have q1:y.k=2:=by simpa using qk
 have hf:=a0h.1 qf;unfold uJ at hf;have hr:0<=y.a/\y.a<x.cells.length:=by omega
 have E0:=uU (show qU x y (!md)=(if (x.c y.a.toNat).st=2 then !md else ((x.c y.a.toNat).st == 1) && !a0m x y.a.toNat) by simp [qU,qf,q1]);obtain⟨i,hi⟩:=Int.eq_ofNat_of_zero_le hr.1;rw[hi] at E0 a2;rw[Int.toNat_natCast] at E0;have hin:i<x.cells.length:=by omega
 clear q1 hf hr hi;have h1:=h.ext x1;obtain⟨bn,on,bc,oc,rfl,rfl,m0,m1⟩:=h1.N i hin;obtain⟨bc',oc',ap,kp,e2,C⟩:=h1.H.cell i hin;cases e2;have HD:=uU (λw' (e:Ext w1 w')=>b2t x b i w' (h1.ext e) hin bn on rfl);have HF:=uU (a7s y b x.cells.length bn on kn i w1 qk h1.n13 hin);clear h h1;go_wp2_with fail;refine HF.mono ?_;rintro e w2 ⟨rfl,hq2⟩;have x2:Ext w w2:=x1.trans hq2;have u1:=hq2.keep m1;have r0:=hq2.keep C.p0;have HD2:=uU (HD w2 hq2);clear C m0 m1 a0 a1 a2;cases qs:((x.c i).st == 2)
 ·have qs':¬(x.c i).st=2:=by simpa using qs
  have E:=uU (show qU x y (!md)=(((x.c i).st == 1) && !a0m x i) by rw[uH E0,if_neg qs']);cases qu:((x.c i).st == 1)
  ·go_wp2_with fail;go_ret;exact⟨by rw[uH E,qu];rfl,x2⟩
  ·go_wp2_with (go_at_call 177;refine HD2.mono ?_;rintro e w3 ⟨rfl,hq3⟩);go_ret;exact⟨by rw[uH E,qu];simp,x2.trans hq3⟩
 ·have qs':(x.c i).st=2:=by simpa using qs
  have E:=uU (show qU x y (!md) = !md by rw[uH E0,if_pos qs']);clear qs';go_wp2_with fail;go_ret;exact⟨by rw[uH E];rfl,x2⟩
theorem b4r(x:Hp)(b k:Nat)(w:World)(h:VAt w b x ar kr ac kc ag kg an kn)(hlt:k<x.cells.length)(bn on:Nat)(ha:an=some ⟨bn,on,none⟩):
  Calls Tryz.prog 179 #[.pointer (some ⟨b,0,none⟩),.pointer (some ⟨bn,on+k*2,none⟩)] w λe w'=>∃r:Bool,e=.returned (.bool r)/\(r=true↔∀l,l<(x.c k).prs.length->cZ x ((x.c k).p l).key (¬cD x k l)/\cZ x ((x.c k).p l).val (¬cD x k l))/\Ext w w':=by
 obtain⟨bn',on',bc,oc,e1,rfl,m0,m1⟩:=h.N k hlt;rw[ha] at e1;cases e1;obtain⟨bc',oc',ap,kp,e2,C⟩:=h.H.cell k hlt;cases e2;have p7:=C.p7;have lp:=C.lp;have HP:=uU C.P;have HC:=uU C;have M0:=uU m0;clear m0 C;go_enter Tryz.func179,Tryz.ntmps179;go_wp2_with fail;go_loopw [16] (λi wr=>∃l:Nat,l<=(x.c k).prs.length/\i=.int .i64 l/\(∀j,j<l->cZ x ((x.c k).p j).key (¬cD x k j)/\cZ x ((x.c k).p j).val (¬cD x k j))/\Ext w wr) (λi _=>(x.c k).prs.length-(intOf i).toNat)
 case atStart=>exact⟨0,Nat.zero_le _,rfl,λj h=>by omega,Ext.refl _⟩
 case round=>
  obtain⟨l,hl,rfl,hall,hbl⟩:=hrel;have HB:=uU hall;clear hall;by_cases hl2:l<(x.c k).prs.length
  ·obtain⟨b2,o2,rfl,q0,q1,q2,q3,q4,q5⟩:=uH HP l hl2;have e0:=hbl.keep q0;have e1:=hbl.keep q1;have e2:=hbl.keep q2;have e3:=hbl.keep q3;have e4:=hbl.keep q4;have e5:=hbl.keep q5;have hb2:b2<wr.heap.size:=uL e0;clear q0 q1 q2 q3 q4 q5 p7 m1;have hl0:(0:Int)<=(l:Int):=by omega
   have hl1:(l:Int)<((x.c k).prs.length:Int):=by omega
   have hx3:=hbl.alloc (.cells #[.int .i64 ((x.c k).p l).key.k,.int .i64 ((x.c k).p l).key.n,.int .i64 ((x.c k).p l).key.a,.int .i64 ((x.c k).p l).val.k,.int .i64 ((x.c k).p l).val.n,.int .i64 ((x.c k).p l).val.a] 154);have hmm:((!eN x k l)=true↔¬cD x k l):=by rw[<-b1j];simp
   have K1:=uU (a1j (x:=x) (y:=((x.c k).p l).key) hmm);have K2:=uU (a1j (x:=x) (y:=((x.c k).p l).val) hmm);clear hmm;go_wp2_with fail;have hv:=h.ext hx3;refine(c1g x b bn (on+k*2) k l _ hv.H.c5 hv.H.c6 hv.H.c7 (hx3.keep M0)).mono ?_;rintro e w2 ⟨rfl,hq2⟩;have x2:=hx3.trans hq2;have u:=λ(o:Nat) (v:Value) (hc:(wr.alloc (.cells #[.int .i64 ((x.c k).p l).key.k,.int .i64 ((x.c k).p l).key.n,.int .i64 ((x.c k).p l).key.a,.int .i64 ((x.c k).p l).val.k,.int .i64 ((x.c k).p l).val.n,.int .i64 ((x.c k).p l).val.a] 154)).cell? ⟨wr.heap.size,o,none⟩=some v)=>hq2.keep hc
   have u0:=u 0 _ (by simp [go_sem];rfl);have u1:=u 1 _ (by simp [go_sem];rfl);have u2:=u 2 _ (by simp [go_sem];rfl);have u3:=u 3 _ (by simp [go_sem];rfl);have u4:=u 4 _ (by simp [go_sem];rfl);have u5:=u 5 _ (by simp [go_sem];rfl);clear u hv e0 e1 e2 e3 e4 e5;go_wp2_with fail;refine(b0q x b ((x.c k).p l).key (eN x k l) _ (h.ext x2)).mono ?_;rintro e w3 ⟨rfl,hq3⟩;have x3:=x2.trans hq3;have v3:=hq3.keep u3;have v4:=hq3.keep u4;have v5:=hq3.keep u5;clear u0 u1 u2 u3 u4 u5;cases tk:qU x ((x.c k).p l).key (!eN x k l)
   ·have N:=uU (show ¬(∀l,l<(x.c k).prs.length->cZ x ((x.c k).p l).key (¬cD x k l)/\cZ x ((x.c k).p l).val (¬cD x k l)) from λr=>by
     have:=K1.2 (r l hl2).1;rw[this] at tk;simp at tk)
    go_wp2_with fail;go_ret
    first | (exact Or.inl ⟨rfl,N,x3⟩) | (exact⟨false,rfl,⟨λf=>by simp at f,λr=>(N r).elim⟩,x3⟩)
   ·go_wp2_with fail;refine(b0q x b ((x.c k).p l).val (eN x k l) _ (h.ext x3)).mono ?_;rintro e w4 ⟨rfl,hq4⟩;have x4:=x3.trans hq4;cases tv:qU x ((x.c k).p l).val (!eN x k l)
    ·have N:=uU (show ¬(∀l,l<(x.c k).prs.length->cZ x ((x.c k).p l).key (¬cD x k l)/\cZ x ((x.c k).p l).val (¬cD x k l)) from λr=>by
      have:=K2.2 (r l hl2).2;rw[this] at tv;simp at tv)
     go_wp2_with fail;go_ret
     first | (exact Or.inl ⟨rfl,N,x4⟩) | (exact⟨false,rfl,⟨λf=>by simp at f,λr=>(N r).elim⟩,x4⟩)
    ·have S:=uU (show ∀j,j<l+1->cZ x ((x.c k).p j).key (¬cD x k j)/\cZ x ((x.c k).p j).val (¬cD x k j) from λj hj=>by
      by_cases e:j=l
      ·subst e;exact⟨K1.1 tk,K2.1 tv⟩
      ·exact HB j (by omega))
     go_wp2_with fail;go_roundw
     case rel=>exact⟨l+1,by omega,by go_num,S,x4⟩
     case measure=>simp [intOf];omega
  ·have Y:=uU (show ∀l,l<(x.c k).prs.length->cZ x ((x.c k).p l).key (¬cD x k l)/\cZ x ((x.c k).p l).val (¬cD x k l) from λj hj=>uH HB j (by omega));go_wp2_with fail;go_ret
   first | (exact Or.inr ⟨rfl,Y,hbl⟩) | (exact⟨true,rfl,⟨λ_=>uH Y,λ_=>rfl⟩,hbl⟩)
theorem b2u(x:Hp)(b k:Nat)(w:World)(h:VAt w b x ar kr ac kc ag kg an kn)(hlt:k<x.cells.length)(bn on:Nat)(ha:an=some ⟨bn,on,none⟩):
  Calls Tryz.prog 178 #[.pointer (some ⟨b,0,none⟩),.pointer (some ⟨bn,on+k*2,none⟩)] w λe w'=>∃r:Bool,e=.returned (.bool r)/\(r=true↔(∀l,l<(x.c k).prs.length->uJ ((x.c k).p l).key x.cells.length/\uJ ((x.c k).p l).val x.cells.length)/\¬cQ (x.c k))/\Ext w w':=by
 obtain⟨bn',on',bc,oc,e1,rfl,m0,m1⟩:=h.N k hlt;rw[ha] at e1;cases e1;obtain⟨bc',oc',ap,kp,e2,C⟩:=h.H.cell k hlt;cases e2;have p7:=C.p7;have lp:=C.lp;have HP:=uU C.P;have HC:=uU C;clear m0 C;go_enter Tryz.func178,Tryz.ntmps178;go_wp2_with fail;go_loopw [15] (λi wr=>∃l:Nat,l<=(x.c k).prs.length/\i=.int .i64 l/\(∀j,j<l->uJ ((x.c k).p j).key x.cells.length/\uJ ((x.c k).p j).val x.cells.length)/\Ext w wr) (λi _=>(x.c k).prs.length-(intOf i).toNat)
 case atStart=>exact⟨0,Nat.zero_le _,rfl,λj h=>by omega,Ext.refl _⟩
 case round=>
  obtain⟨l,hl,rfl,hall,hbl⟩:=hrel;have HB:=uU hall;clear hall;by_cases hl2:l<(x.c k).prs.length
  ·obtain⟨b2,o2,rfl,q0,q1,q2,q3,q4,q5⟩:=uH HP l hl2;have e0:=hbl.keep q0;have e1:=hbl.keep q1;have e2:=hbl.keep q2;have e3:=hbl.keep q3;have e4:=hbl.keep q4;have e5:=hbl.keep q5;have hb2:b2<wr.heap.size:=uL e0;clear q0 q1 q2 q3 q4 q5 p7 m1;have hl0:(0:Int)<=(l:Int):=by omega
   have hl1:(l:Int)<((x.c k).prs.length:Int):=by omega
   have hx3:=hbl.alloc (.cells #[.int .i64 ((x.c k).p l).key.k,.int .i64 ((x.c k).p l).key.n,.int .i64 ((x.c k).p l).key.a,.int .i64 ((x.c k).p l).val.k,.int .i64 ((x.c k).p l).val.n,.int .i64 ((x.c k).p l).val.a] 154);go_wp2_with fail;refine(a8m ((x.c k).p l).key b x.cells.length an kn _ (h.ext hx3).n13 h.H.lc).mono ?_;rintro e w3 ⟨rfl,hq3⟩;have x3:=hx3.trans hq3;have u:=λ(o:Nat) (v:Value) (hc:(wr.alloc (.cells #[.int .i64 ((x.c k).p l).key.k,.int .i64 ((x.c k).p l).key.n,.int .i64 ((x.c k).p l).key.a,.int .i64 ((x.c k).p l).val.k,.int .i64 ((x.c k).p l).val.n,.int .i64 ((x.c k).p l).val.a] 154)).cell? ⟨wr.heap.size,o,none⟩=some v)=>hq3.keep hc
   have v3:=u 3 _ (by simp [go_sem];rfl);have v4:=u 4 _ (by simp [go_sem];rfl);have v5:=u 5 _ (by simp [go_sem];rfl);clear u e0 e1 e2 e3 e4 e5;cases tk:dW ((x.c k).p l).key x.cells.length
   ·have N:=uU (show ¬((∀l,l<(x.c k).prs.length->uJ ((x.c k).p l).key x.cells.length/\uJ ((x.c k).p l).val x.cells.length)/\¬cQ (x.c k)) from λr=>by
     have:=a0h.2 (r.1 l hl2).1;rw[this] at tk;simp at tk)
    go_wp2_with fail;go_ret
    first | (exact Or.inl ⟨rfl,N,x3⟩) | (exact⟨false,rfl,⟨λf=>by simp at f,λr=>(N r).elim⟩,x3⟩)
   ·go_wp2_with fail;refine(a8m ((x.c k).p l).val b x.cells.length an kn _ (h.ext x3).n13 h.H.lc).mono ?_;rintro e w4 ⟨rfl,hq4⟩;have x4:=x3.trans hq4;cases tv:dW ((x.c k).p l).val x.cells.length
    ·have N:=uU (show ¬((∀l,l<(x.c k).prs.length->uJ ((x.c k).p l).key x.cells.length/\uJ ((x.c k).p l).val x.cells.length)/\¬cQ (x.c k)) from λr=>by
      have:=a0h.2 (r.1 l hl2).2;rw[this] at tv;simp at tv)
     go_wp2_with fail;go_ret
     first | (exact Or.inl ⟨rfl,N,x4⟩) | (exact⟨false,rfl,⟨λf=>by simp at f,λr=>(N r).elim⟩,x4⟩)
    ·have S:=uU (show ∀j,j<l+1->uJ ((x.c k).p j).key x.cells.length/\uJ ((x.c k).p j).val x.cells.length from λj hj=>by
      by_cases e:j=l
      ·subst e;exact⟨a0h.1 tk,a0h.1 tv⟩
      ·exact HB j (by omega))
     go_wp2_with fail;go_roundw
     case rel=>exact⟨l+1,by omega,by go_num,S,x4⟩
     case measure=>simp [intOf];omega
  ·have Y:=uU (show ∀l,l<(x.c k).prs.length->uJ ((x.c k).p l).key x.cells.length/\uJ ((x.c k).p l).val x.cells.length from λj hj=>uH HB j (by omega));have HS:=uU (a2s (x.c k) bn (on+k*2) bc (oc+k*8) ap kp wr (hbl.keep m1) (HC.ext hbl));cases ts:a0q (x.c k)
   ·have Z:=uU (show(∀l,l<(x.c k).prs.length->uJ ((x.c k).p l).key x.cells.length/\uJ ((x.c k).p l).val x.cells.length)/\¬cQ (x.c k) from⟨Y,λhs=>by rw[<-a3e,ts] at hs;simp at hs⟩);go_wp2_with (go_at_call 166;refine HS.mono ?_;rintro e w' ⟨rfl,rfl⟩);go_ret
    first | (exact Or.inr ⟨by simp,Z,hbl⟩) | (exact⟨true,by simp,⟨λ_=>uH Z,λ_=>rfl⟩,hbl⟩)
   ·have N:=uU (show ¬((∀l,l<(x.c k).prs.length->uJ ((x.c k).p l).key x.cells.length/\uJ ((x.c k).p l).val x.cells.length)/\¬cQ (x.c k)) from λr=>r.2 (a3e.1 ts));go_wp2_with (go_at_call 166;refine HS.mono ?_;rintro e w' ⟨rfl,rfl⟩);go_ret
    first | (exact Or.inl ⟨by simp,N,hbl⟩) | (exact⟨false,by simp,⟨λf=>by simp at f,λr=>(N r).elim⟩,hbl⟩)
theorem b4s(x:Hp)(b:Nat)(w:World)(h:VAt w b x ar kr ac kc ag kg an kn):
  Calls Tryz.prog 110 #[.pointer (some ⟨b,0,none⟩)] w λe w'=>∃r:Bool,e=.returned (.bool r)/\(r=true↔R4 x)/\Ext w w':=by
 have c3:=h.H.c3;have lr:=h.H.lr;have lc:=h.H.lc;go_enter Tryz.func110,Tryz.ntmps110;go_wp2_with fail;go_loopw [13] (λi wr=>∃k:Nat,k<=x.regs.length/\i=.int .i64 k/\(∀j (hj:j<x.regs.length),j<k->cZ x x.regs[j] False)/\Ext w wr) (λi _=>x.regs.length-(intOf i).toNat)
 case atStart=>exact⟨0,Nat.zero_le _,rfl,λj hj h=>by omega,Ext.refl _⟩
 case round=>
  obtain⟨k,hk,rfl,hall,hbl⟩:=hrel;have HA:=uU hall;clear hall;by_cases hlt:k<x.regs.length
  ·obtain⟨b',o,rfl,p0,p1,p2⟩:=(h.ext hbl).H.R k hlt;have hb':b'<wr.heap.size:=uL p0;have hk0:(0:Int)<=(k:Int):=by omega
   have hk1:(k:Int)<(x.regs.length:Int):=by omega
   go_wp2_with fail;refine(b0q x b x.regs[k] true _ (h.ext (hbl.alloc _))).mono ?_;rintro e w1 ⟨rfl,hq1⟩;have x1:Ext w w1:=(hbl.alloc _).trans hq1;cases q:qU x x.regs[k] (!true)
   ·have N:=uU (show ¬R4 x from λr=>by
     have:=(a1j (m:=!true) (p:=False) (by simp)).2 (r.1 k hlt);rw[this] at q;simp at q)
    go_wp2_with fail;go_ret
    first | (exact Or.inl ⟨rfl,N,x1⟩) | (exact⟨false,rfl,⟨λf=>by simp at f,λr=>(N r).elim⟩,x1⟩)
   ·have S:=uU (show ∀j (hj:j<x.regs.length),j<k+1->cZ x x.regs[j] False from λj hj hjk=>by
     by_cases e:j=k
     ·subst e;exact(a1j (m:=!true) (p:=False) (by simp)).1 q
     ·exact HA j hj (by omega))
    go_wp2_with fail;go_roundw
    case rel=>exact⟨k+1,by omega,by go_num,S,x1⟩
    case measure=>simp [intOf];omega
  ·have A1:=uU (show ∀j (hj:j<x.regs.length),cZ x x.regs[j] False from λj hj=>uH HA j hj (by omega));clear HA;have d13:=(h.ext hbl).n13;go_wp2_with fail;clear hlt hk;go_loopw [27] (λi wr=>∃k:Nat,k<=x.cells.length/\i=.int .i64 k/\(∀j,j<k->¬(cL x j/\cQ (x.c j))/\∀l,l<(x.c j).prs.length->a2o x j l ((x.c j).p l))/\Ext w wr) (λi _=>x.cells.length-(intOf i).toNat)
   case atStart=>exact⟨0,Nat.zero_le _,rfl,λj h=>by omega,hbl⟩
   case round=>
    clear hbl d13;obtain⟨k,hk,rfl,hall,hbl⟩:=hrel;have HA:=uU hall;clear hall;by_cases hlt:k<x.cells.length
    ·have h1:=h.ext hbl;obtain⟨bn,on,bc,oc,rfl,rfl,m0,m1⟩:=h1.N k hlt;have d13:=h1.n13;have hk0:(0:Int)<=(k:Int):=by omega
     have hk1:(k:Int)<(x.cells.length:Int):=by omega
     go_wp2_with fail;refine(b2t x b k _ h1 hlt bn on rfl).mono ?_;rintro e w2 ⟨rfl,hq2⟩;have h2:=h1.ext hq2;have x2:=hbl.trans hq2;cases td:a0m x k
     ·have ND:=uU (show ¬cL x k from λhd=>by rw[<-a1y,td] at hd;simp at hd);go_wp2_with fail;refine(b4r x b k _ h2 hlt bn on rfl).mono ?_;rintro e w3 ⟨r,rfl,hr,hq3⟩;have x3:=x2.trans hq3;cases r
      ·have N:=uU (show ¬R4 x from λr4=>by
        have:=hr.2 (λl hl=>((r4.2 k hlt).2 l hl).2 ND);simp at this)
       clear hr;go_wp2_with fail;go_ret
       first | (exact Or.inl ⟨rfl,N,x3⟩) | (exact⟨false,rfl,⟨λf=>by simp at f,λr=>(N r).elim⟩,x3⟩)
      ·have S:=uU (show ∀j,j<k+1->¬(cL x j/\cQ (x.c j))/\∀l,l<(x.c j).prs.length->a2o x j l ((x.c j).p l) from λj hj=>by
        by_cases e:j=k
        ·subst e;exact⟨λhd=>uH ND hd.1,λl hl=>⟨λhd=>(ND hd).elim,λ_=>hr.1 rfl l hl⟩⟩
        ·exact HA j (by omega))
       clear hr;go_wp2_with fail;go_roundw
       case rel=>exact⟨k+1,by omega,by go_num,S,x3⟩
       case measure=>simp [intOf];omega
     ·have DD:=uU (a1y.1 td);go_wp2_with fail;refine(b2u x b k _ h2 hlt bn on rfl).mono ?_;rintro e w3 ⟨r,rfl,hr,hq3⟩;have x3:=x2.trans hq3;cases r
      ·have N:=uU (show ¬R4 x from λr4=>by
        have:=hr.2 ⟨λl hl=>((r4.2 k hlt).2 l hl).1 DD,λhs=>(r4.2 k hlt).1 ⟨DD,hs⟩⟩;simp at this)
       clear hr;go_wp2_with fail;go_ret
       first | (exact Or.inl ⟨rfl,N,x3⟩) | (exact⟨false,rfl,⟨λf=>by simp at f,λr=>(N r).elim⟩,x3⟩)
      ·have S:=uU (show ∀j,j<k+1->¬(cL x j/\cQ (x.c j))/\∀l,l<(x.c j).prs.length->a2o x j l ((x.c j).p l) from λj hj=>by
        by_cases e:j=k
        ·subst e;exact⟨λhd=>(hr.1 rfl).2 hd.2,λl hl=>⟨λ_=>(hr.1 rfl).1 l hl,λnd=>(nd DD).elim⟩⟩
        ·exact HA j (by omega))
       clear hr;go_wp2_with fail;go_roundw
       case rel=>exact⟨k+1,by omega,by go_num,S,x3⟩
       case measure=>simp [intOf];omega
    ·have Y:=uU (show R4 x from⟨A1,λi hi=>uH HA i (by omega)⟩);go_wp2_with fail;go_ret
     first | (exact Or.inr ⟨rfl,Y,hbl⟩) | (exact⟨true,rfl,⟨λ_=>uH Y,λ_=>rfl⟩,hbl⟩)
theorem a6v(b:Nat)(w:World)(c8:w.cell? ⟨b,8,none⟩=some (.slice ag 0 kg)):
  Calls Tryz.prog 182 #[.pointer (some ⟨b,0,none⟩)] w λe w'=>e=.returned (.slice none 0 0)/\w'=w:=by
 go_enter Tryz.func182,Tryz.ntmps182;go_wp2_with fail;go_ret;exact⟨rfl,rfl⟩
theorem a6w(x:Hp)(b i:Nat)(w:World)(h:VAt w b x ar kr ac kc ag kg an kn)(hg:0<x.gray.length)(hi:x.gray[0]=(i:Int))(hin:i<x.cells.length)(bc oc:Nat)(ap:Option Addr)(kp:Nat)(ha:ac=some ⟨bc,oc,none⟩)(C:CAt w bc (oc+i*8) (x.c i) ap kp):
  Calls Tryz.prog 182 #[.pointer (some ⟨b,0,none⟩)] w λe w'=>e=.returned (.slice ap (x.c i).prs.length kp)/\∃m,w'=w.drewN m:=by
 obtain⟨bn,on,bc',oc',rfl,e1,m0,m1⟩:=h.N i hin;rw[ha] at e1;cases e1;obtain⟨bg,og,rfl,pg⟩:=h.H.G 0 hg;unfold yD at pg;rw[hi] at pg;simp only [Nat.zero_mul,Nat.add_zero] at pg;have c8:=h.H.c8;have n13:=h.n13;have p7:=C.p7;have hg3:((x.gray.length:Int) == 0)=false:=beq_eq_false_iff_ne.2 (by omega);have hg4:(0:Int)<(x.gray.length:Int):=by omega
 have hi0:(0:Int)<=(i:Int):=by omega
 have hi1:(i:Int)<(x.cells.length:Int):=by omega
 clear h C hi;go_enter Tryz.func182,Tryz.ntmps182;go_wp2_with fail;go_quiet (fail);go_wp2_with fail;go_ret;exact⟨rfl,_,rfl⟩
theorem b2v(x:Hp)(b:Nat)(w:World)(c6:w.cell? ⟨b,6,none⟩=some (iv x.cells.length))(n13:w.cell? ⟨b,13,none⟩=some (.slice an x.cells.length kn)):
  Calls Tryz.prog 183 #[.pointer (some ⟨b,0,none⟩)] w λe w'=>e=.returned (.slice none 0 0)/\∃m,w'=w.drewN m:=by
 go_enter Tryz.func183,Tryz.ntmps183;go_wp2_with fail;go_quiet (fail);go_wp2_with fail;go_ret;exact⟨rfl,_,rfl⟩
theorem b2w(x:Hp)(b i:Nat)(w:World)(h:VAt w b x ar kr ac kc ag kg an kn)(hi:x.hand=(i:Int))(hin:i<x.cells.length)(bc oc:Nat)(ap:Option Addr)(kp:Nat)(ha:ac=some ⟨bc,oc,none⟩)(C:CAt w bc (oc+i*8) (x.c i) ap kp):
  Calls Tryz.prog 183 #[.pointer (some ⟨b,0,none⟩)] w λe w'=>e=.returned (.slice ap (x.c i).prs.length kp)/\∃m,w'=w.drewN m:=by
 obtain⟨bn,on,bc',oc',rfl,e1,m0,m1⟩:=h.N i hin;rw[ha] at e1;cases e1;have c6:=h.H.c6;rw[hi] at c6;have n13:=h.n13;have p7:=C.p7;have hn:((i:Int) == (x.cells.length:Int))=false:=beq_eq_false_iff_ne.2 (by omega);have hi0:(0:Int)<=(i:Int):=by omega
 have hi1:(i:Int)<(x.cells.length:Int):=by omega
 clear h C hi;go_enter Tryz.func183,Tryz.ntmps183;go_wp2_with fail;go_quiet (fail);go_wp2_with fail;go_quiet (fail);go_wp2_with fail;go_ret;exact⟨rfl,_,by rw[World.drewN_drewN]⟩
theorem b4t(y:Wd)(b:Nat)(w:World)(k2:(y.k == 2)=false):
  Calls Tryz.prog 231 #[.pointer (some ⟨b,0,none⟩),y.v] w λe w'=>e=.returned (.bool false)/\Ext w w':=by
 go_enter Tryz.func231,Tryz.ntmps231;go_wp2_with fail;refine(b0p y b _ k2).mono ?_;rintro e w1 ⟨rfl,hq⟩;go_wp2_with fail;go_ret;exact⟨rfl,Ext.trans ((Ext.refl w).alloc _) hq⟩
end Go.Proofs.YtddkhnclmeikfaaGreat
