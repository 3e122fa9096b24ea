import Derived.Test.YtddkhnclmeikfaaGreatQd
import Derived.Test.YtddkhnclmeikfaaGreatDsn
import Derived.RangeFuncFrom
set_option maxHeartbeats 1000000
namespace Go.Proofs.YtddkhnclmeikfaaGreat
open Go.RowKit
attribute [local go_sem ↓] Go.wp_at_zero Go.wp_at_succ
theorem newCol_B(x:Hp)(t:Nat):newCol x t=if mayBlackB x t=true then 2 else 0:=by
 unfold newCol mayBlackB markingB;by_cases h1:x.phase=1
 ·simp [h1]
 ·by_cases h2:x.phase=2
  ·simp [h2]
  ·by_cases h3:x.phase=3
   ·simp [h3]
   ·simp [h1,h2,h3]
theorem birthColor_any(x:Hp)(b bn t:Nat)(w:World)(c5:w.cell? ⟨b,5,none⟩=some (iv x.phase))(c6:w.cell? ⟨b,6,none⟩=some (iv x.hand))(m0:w.cell? ⟨bn,t*2,none⟩=some (iv t)):
  Calls Tryz.prog 318 #[.pointer (some ⟨b,0,none⟩),ndp bn t] w fun e w'=>e=.returned (.int .i64 (newCol x t))∧Ext w w':=by
 have NC:=hide (newCol_B x t);have QM:=hide (mayBeBlack_any x b bn (t*2) t w c5 c6 m0);clear c5 c6 m0;cases q:mayBlackB x t
 ·rw[q] at QM NC;have E:=hide (show newCol x t=0 by rw[unhide NC];rfl);clear q NC;go_enter Tryz.func318,Tryz.ntmps318;go_wp2_with fail;refine(unhide QM).mono ?_;rintro e w1 ⟨rfl,x1⟩;go_wp2_with fail;go_ret;exact⟨by rw[unhide E];rfl,x1⟩
 ·rw[q] at QM NC;have E:=hide (show newCol x t=2 by rw[unhide NC];rfl);clear q NC;go_enter Tryz.func318,Tryz.ntmps318;go_wp2_with fail;refine(unhide QM).mono ?_;rintro e w1 ⟨rfl,x1⟩;go_wp2_with fail;go_ret;exact⟨by rw[unhide E];rfl,x1⟩
structure PMid[Inhabited ProtD](C B:Nat)(W1:World)(b:Nat)(z:Hp)(t bn cb co:Nat)(u:Int):Prop where
 m0:W1.cell? ⟨bn,t*2,none⟩=some (iv t)
 m1:W1.cell? ⟨bn,t*2+1,none⟩=some (.pointer (some ⟨cb,co,none⟩))
 s:∃c0,S7 W1 cb co c0
 p7:∃v7,W1.cell? ⟨cb,co+7,none⟩=some v7
 f:∀j,W1.frozen? ⟨cb,j,none⟩=false
 c2:W1.cell? ⟨b,2,none⟩=some (iv u)
 c5:W1.cell? ⟨b,5,none⟩=some (iv z.phase)
 c6:W1.cell? ⟨b,6,none⟩=some (iv z.hand)
 lo:B≤cb
 dd:∀q ob,(default:ProtD).z q=some ob→W1.heap[q]?=some ob
 ne:cb≠b∧cb≠bn∧∀q ob,(default:ProtD).z q=some ob→cb≠q
 fin:∀(k:Int) (n:Nat) (col:Int) (W:World) (qb:Nat),Ext W1 W→NewP W1 W qb n→SOq (C+1) B (cellW W cb co (newC u k n col) (.slice (some ⟨qb,0,none⟩) n n)) b { z with born:=u,cells:=newCs z t (newC u k n col) }
structure PLD[Inhabited ProtD](C B:Nat)(w':World)(b:Nat)(z:Hp)(t bn cb co:Nat):Prop where
 ft:t=fstFree z
 b2:w'.cell? ⟨b,2,none⟩=some (iv z.born)
 f2:w'.frozen? ⟨b,2,none⟩=false
 lo:B≤b
 dd:∀q ob,(default:ProtD).z q=some ob→w'.heap[q]?=some ob
 mid:∀(u:Int) (W1:World),Ext (w'.setCell ⟨b,2,none⟩ (iv u)) W1→PMid C B W1 b z t bn cb co u
theorem SOq.plc[Inhabited ProtD]{C B:Nat}{w:World}{b:Nat}{z:Hp}(h:SOq C B w b z)(s:Snd z)(hC:C≤1000000000)(c:Nat)(fit:z.used+(1+(c:Int))≤z.room)(v:World)(hv:v.heap.size≤B)(hx:Ext v w):
  Calls Tryz.prog 317 #[.pointer (some ⟨b,0,none⟩)] w fun e w'=>∃t bn cb co:Nat,e=.returned (ndp bn t)∧Hid (PLD C B w' b z t bn cb co)∧Ext v w':=by
 obtain⟨ar,kr,a4,n4,k4,a8,m8,k8,br,cB,cO,bn,pb,pa,pk,kn,hd,vf,F,vk,K,role,h,inv,kk,hzn⟩:=h;have r16:=s.r1.regs;have r0:0<z.regs.length:=by omega
 refine(place_any h inv hC r0 s.ok.n8 hzn (fun no=>by
  have cr:=s.crowd no;have r3:=s.r3;unfold R3 at r3;omega) v hv hx).mono ?_
 rintro e w' ⟨t,he,hp,hx'⟩;obtain⟨ft,x1,cB',cO',pa',pk',vf',F',role',px,gl,g⟩:=unhide hp;obtain⟨tl,xr,xg,xo,xph,xhd⟩:=px.len;refine⟨t,bn,cB' t,cO' t,he,⟨ft,?_,g.sb.nb.2 2,g.sb.lo.1,fun q ob hq=>(g.pr q ob hq).2,fun u W1 e1=>?_⟩,hx'⟩
 ·have:=g.sb.bx.2.2.1;rw[show x1.born=z.born by rcases px with⟨_,rfl⟩ | ⟨_,rfl⟩ <;> rfl] at this;exact this
 ·have g1:=(g.boxed (x':={ x1 with born:=u }) (Only.setCell (S:=fun q=>q=b) (Only.refl _ w') (p:=⟨b,2,none⟩) rfl _) (g.sb.nb.set _ _) rfl rfl rfl (g.sb.bx.set2 u) (fun k hk=>cell_other _ (.inr (by omega)))).ext e1;have tl1:t<({ x1 with born:=u }:Hp).cells.length:=tl;refine⟨(g1.sb.nd t tl1).1,(g1.sb.nd t tl1).2,⟨_,g1.rw.s t tl1⟩,⟨_,g1.rw.p7 t tl1⟩,(g1.rw.nc t tl1).1.2,g1.sb.bx.2.2.1,?_,?_,(g1.rw.nc t tl1).2,fun q ob hq=>(g1.pr q ob hq).2,⟨fun e=>(by have:=g1.sp.c t tl1;rw[e,g1.sp.b] at this;cases this),fun e=>(by have:=g1.sp.c t tl1;rw[e,g1.sp.n] at this;cases this),fun q ob hq e=>(by have:=g1.sp.c t tl1;rw[e,(g1.pr q ob hq).1] at this;cases this)⟩,fun k n col W qb eW np=>?_⟩
  ·have:=g1.sb.bx.2.2.2.2.2.1;rw[show({ x1 with born:=u }:Hp).phase=z.phase from xph] at this;exact this
  ·have:=g1.sb.bx.2.2.2.2.2.2.1;rw[show({ x1 with born:=u }:Hp).hand=z.hand from xhd] at this;exact this
  ·obtain⟨pb2,pa2,pk2,role2,g2⟩:=g1.newcell (show 0<({ x1 with born:=u }:Hp).regs.length by show 0<x1.regs.length;rw[xr];exact r0) t tl1 (newC u k n col) n rfl eW qb np.lt np.nf np.z
   have ex:({ ({ x1 with born:=u }:Hp) with cells:=({ x1 with born:=u }:Hp).cells.set t (newC u k n col) }:Hp)={ z with born:=u,cells:=newCs z t (newC u k n col) }:=by
    have e2:({ x1 with born:=u }:Hp).cells.set t (newC u k n col)=newCs z t (newC u k n col):=px.set _;rw[e2];rcases px with⟨_,rfl⟩ | ⟨_,rfl⟩ <;> rfl
   rw[ex] at g2;have iv2:SInv (C+1) { z with born:=u,cells:=newCs z t (newC u k n col) } F' K:=inv.made gl (newC u k n col) rfl (by rw[ft]) rfl rfl s.r1.hand;exact⟨_,_,_,_,_,_,_,_,_,_,_,_,_,_,_,_,_,_,_,_,_,_,g2,iv2,kk,hzn⟩
end Go.Proofs.YtddkhnclmeikfaaGreat
