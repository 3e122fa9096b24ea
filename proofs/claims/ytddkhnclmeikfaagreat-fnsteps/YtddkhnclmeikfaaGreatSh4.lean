import Derived.Test.YtddkhnclmeikfaaGreatQer
set_option maxRecDepth 100000
set_option maxHeartbeats 2000000
namespace Go.Proofs.YtddkhnclmeikfaaGreat
open Go.RowKit
attribute [local go_sem ↓] Go.wp_at_zero Go.wp_at_succ
variable{ar ac ag:Option Addr}{kr kc kg:Nat}
theorem b5y(x:Hp)(w:World)(hR:SlW w (.slice ar x.regs.length kr) x.regs)(hC:SlC w (.slice ac x.cells.length kc) x.cells)(hG:SlI w (.slice ag x.gray.length kg) x.gray)(hcap:a4d w x ac):
  Calls Tryz.prog 35 #[x.v (.slice ar x.regs.length kr) (.slice ac x.cells.length kc) (.slice ag x.gray.length kg)] w λe w'=>∃k:Nat,e=.returned (.int .i64 k)/\a5p x k/\Ext w w':=by
 obtain⟨pin,HZ⟩:∃i:Inhabited uN,Hid (∀q,(@default uN i).z q=none):=⟨⟨⟨λ_=>none⟩⟩,λ_=>rfl⟩;have x1:Ext w (w.alloc (.cells #[iv x.room,iv x.used,iv x.born,.slice ar x.regs.length kr,.slice ac x.cells.length kc,iv x.phase,iv x.hand,iv x.sub,.slice ag x.gray.length kg,iv x.per,iv x.start,iv x.rounds,iv x.forced] 34)):=(Ext.refl w).alloc _;have S1:=uU (SlW.ext x1 hR);have S2:=uU (SlC.ext x1 hC);have S3:=uU (SlI.ext x1 hG);have S4:=uU (hcap.extS hC x1);clear hR hC hG hcap;go_enter Tryz.func35,Tryz.ntmps35;go_wp2_with fail;refine(b4j x _ S1 S2 S3 S4).mono ?_;rintro e w2 ⟨hq,hor⟩;have x2:=x1.trans hq;clear hq;rcases uH hor with⟨hn,rfl⟩ | ⟨hok,b,an,kn,rfl,hv,han⟩
 ·have N:=uU (show a5p x 0 from .inr ⟨λh=>hn h,rfl⟩);clear hor hn;go_wp2_with fail;go_ret;exact⟨0,rfl,N,x2⟩
 ·have OK:=uU hok;have V:=uU hv;have GF:=uU (a2v hok);have SN:=uU hok.snd;clear hor hok hv han;go_wp2_with fail;refine(b4r HZ x b _ V OK.all.1 OK.all.2.1 OK.r5 GF.1).mono ?_;rintro e w4 ⟨s,rfl,hs,x4⟩;have ST:=uU (hs.soq HZ SN);clear hs;go_wp2_with fail;refine(c0r ST (by omega) SN w2 (Nat.le_refl _) x4).mono ?_;rintro e w5 ⟨k,rfl,st,h5,x5⟩;have IS:=uU (show a5p x k from .inl ⟨OK,st⟩);clear st ST;go_wp2_with fail;go_ret;exact⟨k,rfl,IS,x2.trans x5⟩
theorem b5z(x:Hp)(w:World)(hR:SlW w (.slice ar x.regs.length kr) x.regs)(hC:SlC w (.slice ac x.cells.length kc) x.cells)(hG:SlI w (.slice ag x.gray.length kg) x.gray):
  Calls Tryz.prog 36 #[x.v (.slice ar x.regs.length kr) (.slice ac x.cells.length kc) (.slice ag x.gray.length kg)] w λe w'=>∃k:Nat,e=.returned (.int .i64 k)/\a5p x k/\Ext w w':=by
 obtain⟨pin,HZ⟩:∃i:Inhabited uN,Hid (∀q,(@default uN i).z q=none):=⟨⟨⟨λ_=>none⟩⟩,λ_=>rfl⟩;have x1:Ext w (w.alloc (.cells #[iv x.room,iv x.used,iv x.born,.slice ar x.regs.length kr,.slice ac x.cells.length kc,iv x.phase,iv x.hand,iv x.sub,.slice ag x.gray.length kg,iv x.per,iv x.start,iv x.rounds,iv x.forced] 34)):=(Ext.refl w).alloc _;have S1:=uU (SlW.ext x1 hR);have S2:=uU (SlC.ext x1 hC);have S3:=uU (SlI.ext x1 hG);have HB:=uU (dW.new w x (.slice ar x.regs.length kr) (.slice ac x.cells.length kc) (.slice ag x.gray.length kg) 34);clear hR hC hG;go_enter Tryz.func36,Tryz.ntmps36;go_wp2_with fail;refine(a5u x _ S1 S2 S3).mono ?_;rintro e w2 ⟨n,rfl,hok2,hq⟩;have x2:=x1.trans hq;have OK2:=uU hok2;have B2:=uU (HB.ext hq);have Q1:=uU (show SlW w2 (.slice ar x.regs.length kr) x.regs/\SlC w2 (.slice ac x.cells.length kc) x.cells/\SlI w2 (.slice ag x.gray.length kg) x.gray from⟨SlW.ext hq S1,SlC.ext hq S2,SlI.ext hq S3⟩);clear hok2 hq;cases t:(n == 0)
 ·have t2:(n != 0)=true:=by simpa using t
  have N:=uU (show a5p x 0 from .inr ⟨λh=>by have:=eJ.uniq h OK2;simp at t;omega,rfl⟩);go_wp2_with fail;go_ret;exact⟨0,rfl,N,x2⟩
 ·have t2:(n != 0)=false:=by simpa using t
  have Y:=uU (show eJ x 0 by have:=uH OK2;simp at t;rw[t] at this;exact this);obtain⟨b0,b1,b2,b3,b4,b5,b6,b7,b8,b9,b10,b11,b12⟩:=uH B2;have hb0:w.heap.size<w2.heap.size:=uL b4;obtain⟨R1x,R2x,_,_⟩:=Y.all;have hg4:=(a2v Y).1;have n8:=Y.n8;have hrg:0<x.regs.length/\x.regs.length<=100:=by rw[R1x.regs];omega
  have P2:=uU Y.p200;clear R1x R2x;go_wp2_with fail;refine(b1k HZ x _ Q1.1 Q1.2.1 Q1.2.2 hrg.1 hrg.2 n8 P2 (by omega)).mono ?_;rintro e w3 ⟨g,rfl,hg,q3⟩;obtain⟨ar3,kr3,ac3,kc3,vg3,br,bc,pb,pa,pk,role,hG3⟩:=uH hg;have G3:=uU hG3;clear hg hG3 b0 b1 b2 b3 b4 b5 b6 b7 b8 b9 b10 b11 b12;go_wp2_with fail;refine(a9p w2.heap.size g x _ ⟨_,_,_,_,_,_,_,_,_,_,_,G3⟩ (eJ.snd Y) w2 (Nat.le_refl _) q3).mono ?_;rintro e w4 ⟨k,rfl,en4,h4,x4⟩;have IS:=uU (show a5p x k from .inl ⟨Y,en4⟩);clear en4 h4;go_wp2_with fail;go_ret;exact⟨k,rfl,IS,x2.trans x4⟩
theorem HA.rd{B U:Nat}{w:World}{y:Hp}(h:HA B U w y ar kr ac kc ag kg):HRd w y ar kr ac kc ag kg:=by
 rcases h with⟨rfl,rfl,rfl,rfl,rfl,rfl,rfl⟩ | ⟨br,bc,bg,pb,pa,pk,rfl,rfl,rfl,h⟩
 ·exact HRd.zero w
 ·exact⟨h.r,h.cs,h.g⟩
end Go.Proofs.YtddkhnclmeikfaaGreat
