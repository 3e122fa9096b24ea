import Derived.Test.YtddkhnclmeikfaaGreatImpR2
import Derived.Laws.EntriesVeiled
set_option maxRecDepth 100000
set_option maxHeartbeats 8000000
namespace Go.Proofs.YtddkhnclmeikfaaGreat
open Go.RowKit
attribute [local go_sem ↓] Go.wp_at_zero Go.wp_at_succ
variable{x:Hp}{ac ar ag:Option Addr}{kc kr kg:Nat}
def Rn(x:Hp):Nat->Prop
 | 0=>R1 x
 | 1=>R2 x
 | 2=>R3 x
 | 3=>R4 x
 | 4=>R5 x
 | 5=>R6 x
 | 6=>R7 x
 | _=>R8 x
theorem a1q{x:Hp}{k:Nat}(hk:k<8)(h:∀j,j<k->Rn x j)(hn:¬Rn x k):eU x ((k:Int)+1):=by
 unfold eU;have h0:=h 0;have h1:=h 1;have h2:=h 2;have h3:=h 3;have h4:=h 4;have h5:=h 5;have h6:=h 6;simp only [Rn] at h0 h1 h2 h3 h4 h5 h6
 match k,hk with
 | 0,_=>exact .inl ⟨hn,rfl⟩
 | 1,_=>exact .inr (.inl ⟨h0 (by omega),hn,rfl⟩)
 | 2,_=>exact .inr (.inr (.inl ⟨h0 (by omega),h1 (by omega),hn,rfl⟩))
 | 3,_=>exact .inr (.inr (.inr (.inl ⟨h0 (by omega),h1 (by omega),h2 (by omega),hn,rfl⟩)))
 | 4,_=>exact .inr (.inr (.inr (.inr (.inl ⟨h0 (by omega),h1 (by omega),h2 (by omega),h3 (by omega),hn,rfl⟩))))
 | 5,_=>exact .inr (.inr (.inr (.inr (.inr (.inl ⟨h0 (by omega),h1 (by omega),h2 (by omega),h3 (by omega),h4 (by omega),hn,rfl⟩)))))
 | 6,_=>exact .inr (.inr (.inr (.inr (.inr (.inr (.inl ⟨h0 (by omega),h1 (by omega),h2 (by omega),h3 (by omega),h4 (by omega),h5 (by omega),hn,rfl⟩))))))
 | 7,_=>exact .inr (.inr (.inr (.inr (.inr (.inr (.inr (.inl ⟨h0 (by omega),h1 (by omega),h2 (by omega),h3 (by omega),h4 (by omega),h5 (by omega),h6 (by omega),hn,rfl⟩)))))))
theorem okis_ok(h:∀j,j<8->Rn x j):eU x 0:=by
 unfold eU;exact .inr (.inr (.inr (.inr (.inr (.inr (.inr (.inr ⟨h 0 (by omega),h 1 (by omega),h 2 (by omega),h 3 (by omega),h 4 (by omega),h 5 (by omega),h 6 (by omega),h 7 (by omega),rfl⟩)))))))
theorem a4o{k:Nat}(h:∀j,j<k->Rn x j)(hn:Rn x k):∀j,j<k+1->Rn x j:=λj hj=>by
 by_cases e:j=k
 ·rw[e];exact hn
 ·exact h j (by omega)
theorem c8g(r2:R2 x)(i:Nat)(hi:i<x.cells.length):(x.c i).prs.length<=200:=by
 rcases r2.1 i hi with c | c | c
 ·have:=c.2.1.2.2.2.2.2;omega
 ·have:=c.2.1.2.2.2.2.2;omega
 ·exact c.2.2.2.2.2.2.2
theorem b5s(b:Nat):(∀w,(Instr.index 165 (.agg #[.func (.func 106) #[.pointer (some ⟨b,0,none⟩)] #[],.func (.func 108) #[.pointer (some ⟨b,0,none⟩)] #[],.func (.func 109) #[.pointer (some ⟨b,0,none⟩)] #[],.func (.func 110) #[.pointer (some ⟨b,0,none⟩)] #[],.func (.func 111) #[.pointer (some ⟨b,0,none⟩)] #[],.func (.func 112) #[.pointer (some ⟨b,0,none⟩)] #[],.func (.func 113) #[.pointer (some ⟨b,0,none⟩)] #[],.func (.func 114) #[.pointer (some ⟨b,0,none⟩)] #[]]) (.int .i64 0)).run Tryz.prog w=.ok (.func (.func 106) #[.pointer (some ⟨b,0,none⟩)] #[]) w)/\(∀w,(Instr.index 165 (.agg #[.func (.func 106) #[.pointer (some ⟨b,0,none⟩)] #[],.func (.func 108) #[.pointer (some ⟨b,0,none⟩)] #[],.func (.func 109) #[.pointer (some ⟨b,0,none⟩)] #[],.func (.func 110) #[.pointer (some ⟨b,0,none⟩)] #[],.func (.func 111) #[.pointer (some ⟨b,0,none⟩)] #[],.func (.func 112) #[.pointer (some ⟨b,0,none⟩)] #[],.func (.func 113) #[.pointer (some ⟨b,0,none⟩)] #[],.func (.func 114) #[.pointer (some ⟨b,0,none⟩)] #[]]) (.int .i64 1)).run Tryz.prog w=.ok (.func (.func 108) #[.pointer (some ⟨b,0,none⟩)] #[]) w)/\(∀w,(Instr.index 165 (.agg #[.func (.func 106) #[.pointer (some ⟨b,0,none⟩)] #[],.func (.func 108) #[.pointer (some ⟨b,0,none⟩)] #[],.func (.func 109) #[.pointer (some ⟨b,0,none⟩)] #[],.func (.func 110) #[.pointer (some ⟨b,0,none⟩)] #[],.func (.func 111) #[.pointer (some ⟨b,0,none⟩)] #[],.func (.func 112) #[.pointer (some ⟨b,0,none⟩)] #[],.func (.func 113) #[.pointer (some ⟨b,0,none⟩)] #[],.func (.func 114) #[.pointer (some ⟨b,0,none⟩)] #[]]) (.int .i64 2)).run Tryz.prog w=.ok (.func (.func 109) #[.pointer (some ⟨b,0,none⟩)] #[]) w)/\(∀w,(Instr.index 165 (.agg #[.func (.func 106) #[.pointer (some ⟨b,0,none⟩)] #[],.func (.func 108) #[.pointer (some ⟨b,0,none⟩)] #[],.func (.func 109) #[.pointer (some ⟨b,0,none⟩)] #[],.func (.func 110) #[.pointer (some ⟨b,0,none⟩)] #[],.func (.func 111) #[.pointer (some ⟨b,0,none⟩)] #[],.func (.func 112) #[.pointer (some ⟨b,0,none⟩)] #[],.func (.func 113) #[.pointer (some ⟨b,0,none⟩)] #[],.func (.func 114) #[.pointer (some ⟨b,0,none⟩)] #[]]) (.int .i64 3)).run Tryz.prog w=.ok (.func (.func 110) #[.pointer (some ⟨b,0,none⟩)] #[]) w)/\(∀w,(Instr.index 165 (.agg #[.func (.func 106) #[.pointer (some ⟨b,0,none⟩)] #[],.func (.func 108) #[.pointer (some ⟨b,0,none⟩)] #[],.func (.func 109) #[.pointer (some ⟨b,0,none⟩)] #[],.func (.func 110) #[.pointer (some ⟨b,0,none⟩)] #[],.func (.func 111) #[.pointer (some ⟨b,0,none⟩)] #[],.func (.func 112) #[.pointer (some ⟨b,0,none⟩)] #[],.func (.func 113) #[.pointer (some ⟨b,0,none⟩)] #[],.func (.func 114) #[.pointer (some ⟨b,0,none⟩)] #[]]) (.int .i64 4)).run Tryz.prog w=.ok (.func (.func 111) #[.pointer (some ⟨b,0,none⟩)] #[]) w)/\(∀w,(Instr.index 165 (.agg #[.func (.func 106) #[.pointer (some ⟨b,0,none⟩)] #[],.func (.func 108) #[.pointer (some ⟨b,0,none⟩)] #[],.func (.func 109) #[.pointer (some ⟨b,0,none⟩)] #[],.func (.func 110) #[.pointer (some ⟨b,0,none⟩)] #[],.func (.func 111) #[.pointer (some ⟨b,0,none⟩)] #[],.func (.func 112) #[.pointer (some ⟨b,0,none⟩)] #[],.func (.func 113) #[.pointer (some ⟨b,0,none⟩)] #[],.func (.func 114) #[.pointer (some ⟨b,0,none⟩)] #[]]) (.int .i64 5)).run Tryz.prog w=.ok (.func (.func 112) #[.pointer (some ⟨b,0,none⟩)] #[]) w)/\(∀w,(Instr.index 165 (.agg #[.func (.func 106) #[.pointer (some ⟨b,0,none⟩)] #[],.func (.func 108) #[.pointer (some ⟨b,0,none⟩)] #[],.func (.func 109) #[.pointer (some ⟨b,0,none⟩)] #[],.func (.func 110) #[.pointer (some ⟨b,0,none⟩)] #[],.func (.func 111) #[.pointer (some ⟨b,0,none⟩)] #[],.func (.func 112) #[.pointer (some ⟨b,0,none⟩)] #[],.func (.func 113) #[.pointer (some ⟨b,0,none⟩)] #[],.func (.func 114) #[.pointer (some ⟨b,0,none⟩)] #[]]) (.int .i64 6)).run Tryz.prog w=.ok (.func (.func 113) #[.pointer (some ⟨b,0,none⟩)] #[]) w)/\(∀w,(Instr.index 165 (.agg #[.func (.func 106) #[.pointer (some ⟨b,0,none⟩)] #[],.func (.func 108) #[.pointer (some ⟨b,0,none⟩)] #[],.func (.func 109) #[.pointer (some ⟨b,0,none⟩)] #[],.func (.func 110) #[.pointer (some ⟨b,0,none⟩)] #[],.func (.func 111) #[.pointer (some ⟨b,0,none⟩)] #[],.func (.func 112) #[.pointer (some ⟨b,0,none⟩)] #[],.func (.func 113) #[.pointer (some ⟨b,0,none⟩)] #[],.func (.func 114) #[.pointer (some ⟨b,0,none⟩)] #[]]) (.int .i64 7)).run Tryz.prog w=.ok (.func (.func 114) #[.pointer (some ⟨b,0,none⟩)] #[]) w):=
 ⟨λ_=>by kernel_rfl,λ_=>by kernel_rfl,λ_=>by kernel_rfl,λ_=>by kernel_rfl,λ_=>by kernel_rfl,λ_=>by kernel_rfl,λ_=>by kernel_rfl,λ_=>by kernel_rfl⟩
theorem b5t(x:Hp)(b:Nat)(w:World)(h:HAt w b x ar kr ac kc ag kg)(hn:¬R1 x):
  Calls Tryz.prog 68 #[.pointer (some ⟨b,0,none⟩)] w λe w'=>∃n:Int,Hid (e=.returned (.int .i64 n))/\eU x n/\Ext w w':=by
 obtain⟨i0,_⟩:=b5s b;have HH:=uU h;clear h;go_enter Tryz.func68,Tryz.ntmps68;go_wp2_with fail;go_loopw [24] (λi wr=>i=.int .i64 0/\Ext w wr) (λ_ _=>0)
 case atStart=>exact⟨rfl,(Ext.refl w).alloc _⟩
 case round=>
  obtain⟨rfl,hbl⟩:=hrel;go_wp2_with fail;refine(a4f x b _ (HH.ext hbl)).mono ?_;rintro e w2 ⟨r,rfl,hr,hq⟩;have x2:=hbl.trans hq;cases r
  ·have Y:=uU (a1q (x:=x) (k:=0) (by omega) (λj hj=>by omega) hn);clear hr;go_wp2_with fail;go_ret;exact⟨1,rfl,Y,x2⟩
  ·exact(hn (hr.1 rfl)).elim
theorem b3o(x:Hp)(b:Nat)(w:World){an:Option Addr}{kn:Nat}{base:Nat}{vf:Value}{F:List Int}(h:VAt w b x ar kr ac kc ag kg an kn)(hF:FAt w b x base vf F)(hcap:a2k w x ac)(r1:R1 x):
  Calls Tryz.prog 68 #[.pointer (some ⟨b,0,none⟩)] w λe w'=>∃n:Int,Hid (e=.returned (.int .i64 n))/\eU x n/\Ext w w':=by
 obtain⟨i0,i1,i2,i3,i4,i5,i6,i7⟩:=b5s b;have hn8:x.cells.length<=8000:=by have:=r1.room;have:=r1.cells;omega
 have hg8:x.gray.length<=8000:=by have:=r1.gray;omega
 have HV:=uU h;have HFF:=uU hF;have HCAP:=uU hcap;clear h hF hcap r1;go_enter Tryz.func68,Tryz.ntmps68;go_wp2_with fail;go_loopw [24] (λi wr=>∃k:Nat,k<=8/\i=.int .i64 k/\Hid (∀j,j<k->Rn x j)/\Ext w wr) (λi _=>8-(intOf i).toNat)
 case atStart=>exact⟨0,by omega,rfl,λj hj=>by omega,(Ext.refl w).alloc _⟩
 case round=>
  obtain⟨k,hk,rfl,HA,hbl⟩:=hrel;have hv:=uU (HV.ext hbl);obtain rfl | rfl | rfl | rfl | rfl | rfl | rfl | rfl | rfl:k=0\/k=1\/k=2\/k=3\/k=4\/k=5\/k=6\/k=7\/k=8:=by omega
  ·go_wp2_with fail;refine(a4f x b _ hv.H).mono ?_;rintro e w2 ⟨r,rfl,hr,hq⟩;have x2:=hbl.trans hq;cases r
   ·have Y:=uU (a1q (x:=x) (k:=0) (by omega) HA (λq=>by have:=hr.2 q;simp at this));clear hr;go_wp2_with fail;go_ret;exact⟨1,rfl,Y,x2⟩
   ·have S:=uU (a4o HA (show Rn x 0 from hr.1 rfl));clear hr;go_wp2_with fail;go_roundw
    case rel=>exact⟨1,by omega,by go_num,S,x2⟩
    case measure=>simp [intOf]
  ·go_wp2_with fail;refine(b4x x b _ hv (HFF.ext hbl) hn8).mono ?_;rintro e w2 ⟨r,rfl,hr,hq⟩;have x2:=hbl.trans hq;cases r
   ·have Y:=uU (a1q (x:=x) (k:=1) (by omega) HA (λq=>by have:=hr.2 q;simp at this));clear hr;go_wp2_with fail;go_ret;exact⟨2,rfl,Y,x2⟩
   ·have S:=uU (a4o HA (show Rn x 1 from hr.1 rfl));clear hr;go_wp2_with fail;go_roundw
    case rel=>exact⟨2,by omega,by go_num,S,x2⟩
    case measure=>simp [intOf]
  ·go_wp2_with fail;refine(b6p x b _ hv hn8 (c8g (HA 1 (by omega)))).mono ?_;rintro e w2 ⟨r,rfl,hr,hq⟩;have x2:=hbl.trans hq;cases r
   ·have Y:=uU (a1q (x:=x) (k:=2) (by omega) HA (λq=>by have:=hr.2 q;simp at this));clear hr;go_wp2_with fail;go_ret;exact⟨3,rfl,Y,x2⟩
   ·have S:=uU (a4o HA (show Rn x 2 from hr.1 rfl));clear hr;go_wp2_with fail;go_roundw
    case rel=>exact⟨3,by omega,by go_num,S,x2⟩
    case measure=>simp [intOf]
  ·go_wp2_with fail;refine(b4s x b _ hv).mono ?_;rintro e w2 ⟨r,rfl,hr,hq⟩;have x2:=hbl.trans hq;cases r
   ·have Y:=uU (a1q (x:=x) (k:=3) (by omega) HA (λq=>by have:=hr.2 q;simp at this));clear hr;go_wp2_with fail;go_ret;exact⟨4,rfl,Y,x2⟩
   ·have S:=uU (a4o HA (show Rn x 3 from hr.1 rfl));clear hr;go_wp2_with fail;go_roundw
    case rel=>exact⟨4,by omega,by go_num,S,x2⟩
    case measure=>simp [intOf]
  ·go_wp2_with fail;refine(b3b x b _ hv hg8 hn8).mono ?_;rintro e w2 ⟨r,rfl,hr,hq⟩;have x2:=hbl.trans hq;cases r
   ·have Y:=uU (a1q (x:=x) (k:=4) (by omega) HA (λq=>by have:=hr.2 q;simp at this));clear hr;go_wp2_with fail;go_ret;exact⟨5,rfl,Y,x2⟩
   ·have S:=uU (a4o HA (show Rn x 4 from hr.1 rfl));clear hr;go_wp2_with fail;go_roundw
    case rel=>exact⟨5,by omega,by go_num,S,x2⟩
    case measure=>simp [intOf]
  ·go_wp2_with fail;refine(b0r x b _ hv (HA 0 (by omega)) (HA 1 (by omega)) (HA 4 (by omega))).mono ?_;rintro e w2 ⟨r,rfl,hr,hq⟩;have x2:=hbl.trans hq;cases r
   ·have Y:=uU (a1q (x:=x) (k:=5) (by omega) HA (λq=>by have:=hr.2 q;simp at this));clear hr;go_wp2_with fail;go_ret;exact⟨6,rfl,Y,x2⟩
   ·have S:=uU (a4o HA (show Rn x 5 from hr.1 rfl));clear hr;go_wp2_with fail;go_roundw
    case rel=>exact⟨6,by omega,by go_num,S,x2⟩
    case measure=>simp [intOf]
  ·go_wp2_with fail;refine(b4y x b _ hv (a2k.ext HCAP HV.H hbl) (HA 0 (by omega)) (HA 1 (by omega)) (HA 3 (by omega)) (HA 4 (by omega)) (HA 5 (by omega))).mono ?_;rintro e w2 ⟨r,rfl,hr,hq⟩;have x2:=hbl.trans hq;cases r
   ·have Y:=uU (a1q (x:=x) (k:=6) (by omega) HA (λq=>by have:=hr.2 q;simp at this));clear hr;go_wp2_with fail;go_ret;exact⟨7,rfl,Y,x2⟩
   ·have S:=uU (a4o HA (show Rn x 6 from hr.1 rfl));clear hr;go_wp2_with fail;go_roundw
    case rel=>exact⟨7,by omega,by go_num,S,x2⟩
    case measure=>simp [intOf]
  ·go_wp2_with fail;refine(b1x x b _ hv).mono ?_;rintro e w2 ⟨r,rfl,hr,hq⟩;have x2:=hbl.trans hq;cases r
   ·have Y:=uU (a1q (x:=x) (k:=7) (by omega) HA (λq=>by have:=hr.2 q;simp at this));clear hr;go_wp2_with fail;go_ret;exact⟨8,rfl,Y,x2⟩
   ·have S:=uU (a4o HA (show Rn x 7 from hr.1 rfl));clear hr;go_wp2_with fail;go_roundw
    case rel=>exact⟨8,by omega,by go_num,S,x2⟩
    case measure=>simp [intOf]
  ·have Y:=uU (okis_ok (x:=x) HA);go_wp2_with fail;go_ret;exact⟨0,rfl,Y,hbl⟩
theorem a2k.extS{w w':World}(h:a2k w x ac)(hC:SlC w (.slice ac x.cells.length kc) x.cells)(e:Ext w w'):a2k w' x ac:=λi hi bc oc ad l c ha hc=>by
 obtain⟨b2,o2,e2,_,vp,_,_,_,_,_,_,_,p7,hp⟩:=SlC.nth hC i hi;rw[ha] at e2;cases e2;have:=e.keep p7;rw[this] at hc;cases hc;exact h i hi _ _ _ _ _ ha p7
theorem b4p(x:Hp)(w:World)(hR:SlW w (.slice ar x.regs.length kr) x.regs)(hC:SlC w (.slice ac x.cells.length kc) x.cells)(hG:SlI w (.slice ag x.gray.length kg) x.gray)(hcap:a2k w x ac):
  Calls Tryz.prog 22 #[x.v (.slice ar x.regs.length kr) (.slice ac x.cells.length kc) (.slice ag x.gray.length kg)] w λe w'=>∃n:Int,Hid (e=.returned (.int .i64 n))/\eU x n/\Ext w w':=by
 have x1:=(Ext.refl w).alloc (.cells #[iv x.room,iv x.used,iv x.born,.slice ar x.regs.length kr,.slice ac x.cells.length kc,iv x.phase,iv x.hand,iv x.sub,.slice ag x.gray.length kg,iv x.per,iv x.start,iv x.rounds,iv x.forced] 34);have S1:=uU (SlW.ext x1 hR);have S2:=uU (SlC.ext x1 hC);have S3:=uU (SlI.ext x1 hG);have S4:=uU (hcap.extS hC x1);clear hR hC hG hcap;go_enter Tryz.func22,Tryz.ntmps22;go_wp2_with fail;refine(b8x x _ S1 S2 S3).mono ?_;rintro e w2 ⟨b,rfl,hq,hor⟩;have x2:=x1.trans hq;rcases uH hor with⟨hn,hh⟩ | ⟨hr,an,kn,base,vf,F,hv,hf,_⟩
 ·have HH:=uU hh;clear hor hh;go_wp2_with fail;refine(b5t x b _ HH hn).mono ?_;rintro e w3 ⟨n,rfl,hok,hq3⟩;have x3:=x2.trans hq3;go_wp2_with fail;go_ret;exact⟨n,rfl,hok,x3⟩
 ·have HV:=uU hv;have HF:=uU hf;have HC:=uU (S4.extS S2 hq);have HR:=uU hr;clear hor hv hf hr;go_wp2_with fail;refine(b3o x b _ HV HF HC HR).mono ?_;rintro e w3 ⟨n,rfl,hok,hq3⟩;have x3:=x2.trans hq3;go_wp2_with fail;go_ret;exact⟨n,rfl,hok,x3⟩
end Go.Proofs.YtddkhnclmeikfaaGreat
