import Derived.Test.YtddkhnclmeikfaaGreatMp2
set_option maxRecDepth 100000
set_option maxHeartbeats 1000000
namespace Go.Proofs.YtddkhnclmeikfaaGreat
open Go.RowKit
attribute [local go_sem ↓] Go.wp_at_zero Go.wp_at_succ
theorem a9y[Inhabited uZ]{B:Nat}{w:World}{g:Nat}{x:Hp}{ar:Option Addr}{kr:Nat}{ac:Option Addr}{kc:Nat}{vg:Value}{br bc:Nat}(h:GK B w g x ar kr ac kc vg br bc)(s:Snd x)(a:World)(ha:a.heap.size<=B)(hx:Ext a w):
  Calls Tryz.prog 90 #[.pointer (some ⟨g,0,none⟩)] w λe w'=>∃H:Nat->Bool,e=.returned (.tuple #[.int .i64 (eC x H x.cells.length),.int .i64 (tQ x H x.cells.length)])/\Hid (∀i,H i=true↔dK x i)/\GOk B w' g (dD x H)/\Ext a w':=by
 have G0:=uU h;have S:=uU s;obtain⟨pb,pa,pk,role,h⟩:=h;obtain⟨ag,kg,hat⟩:=h.hat s;have QH:=uU (b1o x g w hat s.r2 s.r4 s.ok.n8);have n8:=s.ok.n8;have hgw:g<w.heap.size:=h.nf.1;have r0:0<x.regs.length:=by rw[s.r1.regs];omega
 have USED:=uU (show 0<=x.used/\x.used<=4000 by have h1:=s.r3.1;have h2:=s.r3.2;have h3:=s.r1.room;omega);have BC:=uU (show 0<x.cells.length->bc<w.heap.size from λhn=>(h.rw.nc hn).1.1);clear h s hat;go_enter Tryz.func90,Tryz.ntmps90;go_wp2_with fail;refine(uH QH).mono ?_;rintro e w1 ⟨v,L,rfl,sn,hL,q1⟩;obtain⟨H,hH⟩:∃H:Nat->Bool,H=(λi:Nat=>decide ((i:Int)∈L)):=⟨_,rfl⟩;have HI:=uU (show ∀i,H i=true↔dK x i from λi=>by rw[hH];simp only [decide_eq_true_eq];exact uH hL i);have SN:=uU (show ∀j,j<x.cells.length->w1.cell? ⟨w.heap.size,j,none⟩=some (.bool (H j)) from λj hj=>by rw[hH];exact sn.s j hj);have hs1:w.heap.size<w1.heap.size:=sn.hb.2;have G1:=uU ((uH G0).ext q1);have X1:=uU (hx.trans q1);have c4:w1.cell? ⟨g,4,none⟩=some (.slice ac x.cells.length kc):=by obtain⟨_,_,_,_,h1⟩:=uH G1;exact h1.bx.2.2.2.2.1
 have hg1:g<w1.heap.size:=uL c4;clear hH sn hL QH G0;go_wp2_with fail;go_loopw [5,19] (λgn si wr=>∃i:Nat,i<=x.cells.length/\si=.int .i64 i/\gn=.int .i64 (eC x H i)/\Hid (GK B wr g (cK x H i) ar kr ac kc vg br bc)/\Hid (∀j,j<x.cells.length->wr.cell? ⟨w.heap.size,j,none⟩=some (.bool (H j)))/\Hid (Ext a wr)) (λ_ si _=>x.cells.length-(intOf si).toNat)
 case atStart=>exact⟨0,Nat.zero_le _,rfl,rfl,uH G1,uH SN,uH X1⟩
 case round=>
  clear G1 SN X1 c4 hg1 hs1;obtain⟨i,hi,rfl,rfl,hG,hS,hX⟩:=hrel;by_cases hlt:i<x.cells.length
  ·have c0:=uH hS i hlt;have k0:(0:Int)<=(i:Int):=by omega
   have k1:(i:Int)<(x.cells.length:Int):=by omega
   cases hh:H i
   ·rw[hh] at c0;have E:=uU (show cK x H (i+1)=cK x H i by show(if H i=true then _ else _)=_;rw[if_neg (by simp [hh])]);have E2:=uU (show eC x H (i+1)=eC x H i by show(if H i=true then _ else _)=_;rw[if_neg (by simp [hh])]);go_wp2_with fail;go_roundw
    case rel=>exact⟨i+1,by omega,by go_num,by rw[uH E2],by rw[uH E];exact uH hG,uH hS,uH hX⟩
    case measure=>simp [intOf];omega
   ·rw[hh] at c0;have HD:=uU ((uH HI i).1 hh);obtain⟨pb1,pa1,pk1,role1,g1⟩:=uH hG;have LEN:=uU (a1p x H i);have CI:=uU (show(cK x H i).c i=x.c i by rw[a9p x H i hi i,if_neg (by omega)]);have hn:0<(cK x H i).cells.length:=by rw[uH LEN];omega
    have c4:=g1.bx.2.2.2.2.1;rw[g1.hc hn,uH LEN] at c4;have p7:=g1.rw.p7 i (by rw[uH LEN];exact hlt);rw[uH CI] at p7;have hgr:g<wr.heap.size:=uL c4;have hbr:bc<wr.heap.size:=uL p7;have l200:=(uH S).ok.p200 i hlt;have TOP:=uU (inH_top x H (cK x H i) i (by rw[uH LEN];exact hlt) (uH CI));have GT:=uU (show GK B wr g (inH x H (cK x H i) i (x.c i).prs.length) ar kr ac kc vg br bc by rw[uH TOP];exact uH hG);have NIL:=uU (show eZ x H (x.c i) ((x.c i).prs.drop (x.c i).prs.length)=0 by rw[List.drop_length];rfl);clear g1;go_wp2_with fail;go_loopw [5,7] (λgn sk wr=>∃k:Nat,k<=(x.c i).prs.length/\sk=.int .i64 ((k:Int)-1)/\gn=.int .i64 ((eC x H i:Int)+(eZ x H (x.c i) ((x.c i).prs.drop k):Int))/\Hid (GK B wr g (inH x H (cK x H i) i k) ar kr ac kc vg br bc)/\Hid (∀j,j<x.cells.length->wr.cell? ⟨w.heap.size,j,none⟩=some (.bool (H j)))/\Hid (Ext a wr)) (λ_ sk _=>(intOf sk+1).toNat)
    case atStart=>exact⟨(x.c i).prs.length,Nat.le_refl _,rfl,by rw[uH NIL];simp,uH GT,uH hS,uH hX⟩
    case round=>
     clear GT hS hX hG c0 c4 p7 hgr hbr TOP NIL;obtain⟨k,hk,rfl,rfl,hG,hS,hX⟩:=hrel;cases k with
     | zero=>
      have E:=uU (c5h x H i hh);have E2:=uU (show eC x H (i+1)=eC x H i+eZ x H (x.c i) ((x.c i).prs.drop 0) by show(if H i=true then _ else _)=_;rw[if_pos hh];rfl);go_wp2_with fail;go_roundw
      case rel=>exact⟨i+1,by omega,by go_num,by rw[uH E2];simp,by rw[uH E];exact uH hG,uH hS,uH hX⟩
      case measure=>simp [intOf];omega
     | succ k=>
      have ek:(((k+1:Nat):Int)-1)=(k:Int):=by omega
      rw[ek];have hkl:k<(x.c i).prs.length:=by omega
      obtain⟨z,hz⟩:∃z,z=inH x H (cK x H i) i (k+1):=⟨_,rfl⟩;have HZ:=uU hz;rw[<-hz] at hG;have ZL:=uU (show z.cells.length=x.cells.length by rw[hz,inH_len,uH LEN]);have ZC:=uU (show z.c i={ x.c i with prs:=(x.c i).prs.take (k+1)++yX x H (x.c i) ((x.c i).prs.drop (k+1)) } by rw[hz];exact inH_c x H _ i (k+1) (by rw[uH LEN];exact hlt));have ZST:=uU (show ∀q,(z.c q).st=(x.c q).st/\(z.c q).to=(x.c q).to from λq=>by rw[hz];exact inH_st x H _ i (k+1) (by rw[uH LEN];exact hlt) (c7t x H i hi) q);obtain⟨m,hm⟩:∃m,m=(z.c i).prs.length:=⟨_,rfl⟩;have hmk:k<m:=by rw[hm,uH ZC];simp;omega
      have hm200:m<=200:=by have h1:=a1z x H (x.c i) ((x.c i).prs.drop (k+1));rw[hm,uH ZC];simp at h1 ⊢;omega
      obtain⟨pb2,pa2,pk2,role2,g2⟩:=uH hG;have hiz:i<z.cells.length:=by rw[uH ZL];exact hlt
      have hn:0<z.cells.length:=by omega
      have c4:=g2.bx.2.2.2.2.1;rw[g2.hc hn,uH ZL] at c4;have p7:=g2.rw.p7 i hiz;rw[(g2.rw.pl i hiz (g2.rw.pw hiz (by rw[<-hm];omega))).1,<-hm] at p7;have s2:=(g2.rw.s i hiz).2.2.1;have wk:(z.c i).weak=(x.c i).weak:=by rw[uH ZC]
      rw[wk] at s2;obtain⟨y,hy⟩:∃y,y=(x.c i).prs[k]:=⟨_,rfl⟩
      have PY:=uU (show zW wr (pb2 i) (k*6) y by
       have h1:=g2.rw.p i hiz k (by rw[<-hm];exact hmk)
       have h2:(z.c i).p k=y:=by
        rw[hy,uH ZC];simp only [Cl.p];rw[List.getD_eq_getElem?_getD,List.getElem?_append_left (by simp;omega),List.getElem?_take,if_pos (by omega),List.getElem?_eq_getElem hkl];rfl
       rw[h2] at h1;exact h1)
      obtain⟨e0,e1,e2,e3,e4,e5⟩:=uH PY;have hgr:g<wr.heap.size:=uL c4;have hbr:bc<wr.heap.size:=uL p7;have hpr:pb2 i<wr.heap.size:=uL e0;have t0:(0:Int)<=(k:Int):=by omega
      have t1:(k:Int)<(m:Int):=by omega
      have UO:=uU (show(x.c i).st=1/\0<=(x.c i).weak/\(x.c i).weak<=3 by
       have g:=(uH HD).good (uH S).r2 (uH S).r4;have:=(uH S).r2.1 i hlt;unfold dN a3h at this;have:=g.2.1;omega)
      have SEENW:=uU (show ∀W,Ext wr W->∀j,j<z.cells.length->W.cell? ⟨w.heap.size,j,none⟩=some (.bool (H j)) from λW xw j hj=>xw.keep (uH hS j (by rw[uH ZL] at hj;exact hj)))
      have FK:=uU (show uJ y.key x.cells.length/\uJ y.val x.cells.length by
       have:=c5g (uH S) (uH HD) k hkl;rw[<-Cl.p_eq _ _ hkl,<-hy] at this;exact this)
      have LOST:=uU (show ∀u,uJ u x.cells.length->∀W,Ext wr W->Calls Tryz.prog 148 #[.pointer (some ⟨g,0,none⟩),.slice (some ⟨w.heap.size,0,none⟩) x.cells.length x.cells.length,u.v] W λe w'=>e=.returned (.bool (qW x H u))/\Ext W w' from λu hu W xw=>by
       have:=c1h (g2.ext xw) H w.heap.size (uH SEENW W xw) u (by rw[uH ZL];exact hu) (by rw[b8o (uH ZST),uH ZL];exact res_in (uH S).r2 hu);rw[uH ZL,c5f (uH ZST)] at this;exact this)
      have SC:=uU (show uV x=(i:Int)->0<=(cK x H i).sub/\(cK x H i).sub<=(x.c i).prs.length from λe=>by rw[b0t x H i e i (Nat.le_refl _)];exact b3h (uH S) hlt (uH UO).1 e);have GONE:=uU (λq:goB x H (x.c i) y=true=>uU (show eZ x H (x.c i) ((x.c i).prs.drop k)=eZ x H (x.c i) ((x.c i).prs.drop (k+1))+1 by rw[a4z _ k hkl,a2t,<-hy,if_pos q]));have KEEP:=uU (λq:goB x H (x.c i) y=false=>And.intro (uU (show eZ x H (x.c i) ((x.c i).prs.drop k)=eZ x H (x.c i) ((x.c i).prs.drop (k+1)) by rw[a4z _ k hkl,a2t,<-hy,if_neg (by simp [q])])) (uU (show inH x H (cK x H i) i k=z by rw[uH HZ];exact c7r x H _ i k hkl (by rw[<-hy];exact q) (λe=>(uH SC e).2))));have NUM:=uU (inH_num x H (λq hq=>(uH S).ok.p200 q hq) i (k+1) hlt n8 (uH USED) (uH S).r1.sub);rw[<-uH HZ] at NUM;have SIZ:=uU (show w.heap.size<wr.heap.size from uL (uH hS i hlt))
      have CUT:=uU (λq:goB x H (x.c i) y=true=>show ∀W,Ext wr W->Calls Tryz.prog 149 #[.pointer (some ⟨g,0,none⟩),.int .i64 i,.int .i64 k] W λe w'=>e=.returned (.tuple #[])/\GK B w' g (inH x H (cK x H i) i k) ar kr ac kc vg br bc/\(∀j,j<x.cells.length->w'.cell? ⟨w.heap.size,j,none⟩=some (.bool (H j)))/\Ext a w' from λW xw=>by
       have zr:z.regs.length=x.regs.length:=by rw[uH HZ];show(cK x H i).regs.length=_;rw[(a5u x H i).2.2.2]
       refine(b5n ((uH hG).ext xw) i k hiz (by rw[<-hm];exact hmk) (by rw[zr];exact r0) (by rw[<-hm];exact hm200) (uH NUM).1 (uH NUM).2 (by rw[uH ZL];exact n8) a ha ((uH hX).trans xw)).mono ?_;rintro e w4 ⟨rfl,g4,f4,x4⟩;refine⟨rfl,?_,λj hj=>?_,x4⟩
       ·rw[uH HZ] at g4;rw[<-inH_cut x H (cK x H i) i k (by rw[uH LEN];exact hlt) hkl (by rw[<-hy];exact q) (uH SC) (c1q x H i)];exact g4
       ·refine(World.cell?_of_block (a:=⟨w.heap.size,j,none⟩) (f4.2 w.heap.size (Nat.lt_of_lt_of_le (uH SIZ) xw.size) (by omega) (by have:=uH BC (by omega);omega))).trans (xw.keep (uH hS j hj)))
      have GB:=uU (show goB x H (x.c i) y=((wkB (x.c i) && qW x H y.key) || (wvB (x.c i) && qW x H y.val)) from rfl)
      have WG:=uU (show wrap64 ((eC x H i:Int)+(eZ x H (x.c i) ((x.c i).prs.drop (k+1)):Int)+1)=(eC x H i:Int)+(eZ x H (x.c i) ((x.c i).prs.drop (k+1)):Int)+1 from by
       have h1:=a5a x H (λq hq=>(uH S).ok.p200 q hq) i hi;have h2:=a5t x H (x.c i) ((x.c i).prs.drop (k+1));have h3:((x.c i).prs.drop (k+1)).length<=200:=by simp;omega
       exact a4y _ (by omega) (by omega))
      have HM:=uU hm;clear g2 hy hz hm wk ek;have hw:(x.c i).weak=0\/(x.c i).weak=1\/(x.c i).weak=2\/(x.c i).weak=3:=by have:=(uH UO).2;omega
      rcases hw with e | e | e | e
      ·rw[e] at s2;have t:goB x H (x.c i) y=false:=by rw[uH GB];simp [wkB,wvB,e]
       clear e GB;go_wp2_with fail;go_roundw
       case rel=>exact⟨k,by omega,by go_num,by rw[uH (uH KEEP t).1],by rw[uH (uH KEEP t).2];exact(uH hG).ext ((Ext.refl wr).alloc (.cells #[iv y.key.k,iv y.key.n,iv y.key.a,iv y.val.k,iv y.val.n,iv y.val.a] 154)),λj hj=>(((Ext.refl wr).alloc (.cells #[iv y.key.k,iv y.key.n,iv y.key.a,iv y.val.k,iv y.val.n,iv y.val.a] 154))).keep (uH hS j hj),(uH hX).trans ((Ext.refl wr).alloc (.cells #[iv y.key.k,iv y.key.n,iv y.key.a,iv y.val.k,iv y.val.n,iv y.val.a] 154))⟩
       case measure=>simp [intOf]
      ·rw[e] at s2;have T:=uU (show goB x H (x.c i) y=qW x H y.key by rw[uH GB];simp [wkB,wvB,e]);clear e GB;go_wp2_with fail;refine(uH LOST y.key (uH FK).1 _ ((Ext.refl wr).alloc (.cells #[iv y.key.k,iv y.key.n,iv y.key.a,iv y.val.k,iv y.val.n,iv y.val.a] 154))).mono ?_;rintro e w2 ⟨rfl,q2⟩;have xq:=((Ext.refl wr).alloc (.cells #[iv y.key.k,iv y.key.n,iv y.key.a,iv y.val.k,iv y.val.n,iv y.val.a] 154)).trans q2;cases t0:qW x H y.key
       ·have t:goB x H (x.c i) y=false:=by rw[uH T];exact t0
        go_wp2_with fail;go_roundw
        case rel=>exact⟨k,by omega,by go_num,by rw[uH (uH KEEP t).1],by rw[uH (uH KEEP t).2];exact(uH hG).ext xq,λj hj=>(xq).keep (uH hS j hj),(uH hX).trans xq⟩
        case measure=>simp [intOf]
       ·have t:goB x H (x.c i) y=true:=by rw[uH T];exact t0
        go_wp2_with fail;refine(uH CUT t _ xq).mono ?_;rintro e w4 ⟨rfl,g4,s4,x4⟩;have G4:=uU g4;have S4:=uU s4;have X4:=uU x4;have EG:=uU (uH (uH GONE t));clear g4 s4 x4;go_wp2_with fail;go_roundw
        case rel=>exact⟨k,by omega,by go_num,by rw[uH EG,uH WG];refine congrArg (Value.int IntKind.i64) ?_;omega,uH G4,uH S4,uH X4⟩
        case measure=>simp [intOf]
      ·rw[e] at s2;have T:=uU (show goB x H (x.c i) y=qW x H y.val by rw[uH GB];simp [wkB,wvB,e]);clear e GB;go_wp2_with fail;refine(uH LOST y.val (uH FK).2 _ ((Ext.refl wr).alloc (.cells #[iv y.key.k,iv y.key.n,iv y.key.a,iv y.val.k,iv y.val.n,iv y.val.a] 154))).mono ?_;rintro e w2 ⟨rfl,q2⟩;have xq:=((Ext.refl wr).alloc (.cells #[iv y.key.k,iv y.key.n,iv y.key.a,iv y.val.k,iv y.val.n,iv y.val.a] 154)).trans q2;cases t0:qW x H y.val
       ·have t:goB x H (x.c i) y=false:=by rw[uH T];exact t0
        go_wp2_with fail;go_roundw
        case rel=>exact⟨k,by omega,by go_num,by rw[uH (uH KEEP t).1],by rw[uH (uH KEEP t).2];exact(uH hG).ext xq,λj hj=>(xq).keep (uH hS j hj),(uH hX).trans xq⟩
        case measure=>simp [intOf]
       ·have t:goB x H (x.c i) y=true:=by rw[uH T];exact t0
        go_wp2_with fail;refine(uH CUT t _ xq).mono ?_;rintro e w4 ⟨rfl,g4,s4,x4⟩;have G4:=uU g4;have S4:=uU s4;have X4:=uU x4;have EG:=uU (uH (uH GONE t));clear g4 s4 x4;go_wp2_with fail;go_roundw
        case rel=>exact⟨k,by omega,by go_num,by rw[uH EG,uH WG];refine congrArg (Value.int IntKind.i64) ?_;omega,uH G4,uH S4,uH X4⟩
        case measure=>simp [intOf]
      ·rw[e] at s2;have T:=uU (show goB x H (x.c i) y=(qW x H y.key || qW x H y.val) by rw[uH GB];simp [wkB,wvB,e]);clear e GB;go_wp2_with fail;refine(uH LOST y.key (uH FK).1 _ ((Ext.refl wr).alloc (.cells #[iv y.key.k,iv y.key.n,iv y.key.a,iv y.val.k,iv y.val.n,iv y.val.a] 154))).mono ?_;rintro e w2 ⟨rfl,q2⟩;have xq:=((Ext.refl wr).alloc (.cells #[iv y.key.k,iv y.key.n,iv y.key.a,iv y.val.k,iv y.val.n,iv y.val.a] 154)).trans q2;cases t0:qW x H y.key
       ·have b3:w2.cell? ⟨wr.heap.size,3,none⟩=some (iv y.val.k):=q2.keep (by simp [go_sem]);have b4:w2.cell? ⟨wr.heap.size,4,none⟩=some (iv y.val.n):=q2.keep (by simp [go_sem]);have b5:w2.cell? ⟨wr.heap.size,5,none⟩=some (iv y.val.a):=q2.keep (by simp [go_sem]);go_wp2_with fail;refine(uH LOST y.val (uH FK).2 _ xq).mono ?_;rintro e w3 ⟨rfl,q3⟩;have xr:=xq.trans q3;cases t1:qW x H y.val
        ·have t:goB x H (x.c i) y=false:=by rw[uH T,t0,t1];rfl
         go_wp2_with fail;go_roundw
         case rel=>exact⟨k,by omega,by go_num,by rw[uH (uH KEEP t).1],by rw[uH (uH KEEP t).2];exact(uH hG).ext xr,λj hj=>(xr).keep (uH hS j hj),(uH hX).trans xr⟩
         case measure=>simp [intOf]
        ·have t:goB x H (x.c i) y=true:=by rw[uH T,t0,t1];rfl
         go_wp2_with fail;refine(uH CUT t _ xr).mono ?_;rintro e w4 ⟨rfl,g4,s4,x4⟩;have G4:=uU g4;have S4:=uU s4;have X4:=uU x4;have EG:=uU (uH (uH GONE t));clear g4 s4 x4;go_wp2_with fail;go_roundw
         case rel=>exact⟨k,by omega,by go_num,by rw[uH EG,uH WG];refine congrArg (Value.int IntKind.i64) ?_;omega,uH G4,uH S4,uH X4⟩
         case measure=>simp [intOf]
       ·have t:goB x H (x.c i) y=true:=by rw[uH T,t0];rfl
        go_wp2_with fail;refine(uH CUT t _ xq).mono ?_;rintro e w4 ⟨rfl,g4,s4,x4⟩;have G4:=uU g4;have S4:=uU s4;have X4:=uU x4;have EG:=uU (uH (uH GONE t));clear g4 s4 x4;go_wp2_with fail;go_roundw
        case rel=>exact⟨k,by omega,by go_num,by rw[uH EG,uH WG];refine congrArg (Value.int IntKind.i64) ?_;omega,uH G4,uH S4,uH X4⟩
        case measure=>simp [intOf]
  ·have ie:i=x.cells.length:=by omega
   subst ie;have LEN:=uU (a1p x H x.cells.length);have c4:wr.cell? ⟨g,4,none⟩=some (.slice ac x.cells.length kc):=by obtain⟨_,_,_,_,g1⟩:=uH hG;have:=g1.bx.2.2.2.2.1;rw[uH LEN] at this;exact this
   have hgr:g<wr.heap.size:=uL c4;obtain⟨z,hz⟩:∃z,z=cK x H x.cells.length:=⟨_,rfl⟩;have ZE:=uU (show dD x H=qK x z H x.cells.length by rw[hz];rfl);have ZLEN:=uU (show z.cells.length=x.cells.length by rw[hz];exact uH LEN)
   have ZC:=uU (show ∀q,(z.c q).last=(x.c q).last/\(H q=false->z.c q=x.c q) from λq=>by
    rw[hz,a9p x H _ (Nat.le_refl _) q]
    split
    ·rename_i h;exact⟨rfl,λe=>by rw[e] at h;exact absurd h.2 (by simp)⟩
    ·exact⟨rfl,λ_=>rfl⟩)
   rw[<-hz] at hG;clear hz LEN;go_wp2_with fail;go_loopw [10,94] (λdn si wr=>∃j:Nat,j<=x.cells.length/\si=.int .i64 j/\dn=.int .i64 (tQ x H j)/\Hid (GK B wr g (qK x z H j) ar kr ac kc vg br bc)/\Hid (∀j,j<x.cells.length->wr.cell? ⟨w.heap.size,j,none⟩=some (.bool (H j)))/\Hid (Ext a wr)) (λ_ si _=>x.cells.length-(intOf si).toNat)
   case atStart=>exact⟨0,Nat.zero_le _,rfl,rfl,uH hG,uH hS,uH hX⟩
   case round=>
    clear hG hS hX c4 hgr;obtain⟨j,hj,rfl,rfl,hG,hS,hX⟩:=hrel;by_cases hlt:j<x.cells.length
    ·obtain⟨pb2,pa2,pk2,role2,g2⟩:=uH hG;have DL:=uU (show(qK x z H j).cells.length=x.cells.length by rw[a2u,uH ZLEN]);have hjz:j<(qK x z H j).cells.length:=by rw[uH DL];exact hlt
     have hn:0<(qK x z H j).cells.length:=by omega
     have DC:=uU (c3i x z H j (by rw[uH ZLEN];exact hj) j (Nat.le_refl _));have c4:=g2.bx.2.2.2.2.1;rw[g2.hc hn,uH DL] at c4;have s7:=g2.rw.s j hjz;have p3:=s7.2.2.2.1;rw[uH DC,(uH ZC j).1] at p3;have c0:=uH hS j hlt;have fc:=(g2.rw.nc hn).1.2 (j*8+3);have hgr:g<wr.heap.size:=uL c4;have hbr:bc<wr.heap.size:=uL p3;have k0:(0:Int)<=(j:Int):=by omega
     have k1:(j:Int)<(x.cells.length:Int):=by omega
     have wd:=uU (a4y ((tQ x H j:Int)+1) (by omega) (by have:=b6v x H j;omega));have SB:=uU (show w.heap.size≠bc by have:=uH BC (by omega);omega);have NO:=uU (λq:yU x H j=false=>And.intro (show tQ x H (j+1)=tQ x H j by show(if yU x H j=true then _ else _)=_;rw[if_neg (by simp [q])]) (show qK x z H (j+1)=qK x z H j by show(if yU x H j=true then _ else _)=_;rw[if_neg (by simp [q])]));cases q1:((x.c j).last == 1)
     ·have N:=uU (uH NO (by simp [yU,q1]));clear g2 s7;go_wp2_with fail;go_roundw
      case rel=>exact⟨j+1,by omega,by go_num,by rw[(uH N).1],by rw[(uH N).2];exact uH hG,uH hS,uH hX⟩
      case measure=>simp [intOf];omega
     ·cases hh:H j
      ·rw[hh] at c0;have Q:=uU (show yU x H j=true by simp [yU,q1,hh]);have EN:=uU (show tQ x H (j+1)=tQ x H j+1 by show(if yU x H j=true then _ else _)=_;rw[if_pos (uH Q)]);have ET:=uU (show qK x z H (j+1)={ qK x z H j with cells:=(qK x z H j).cells.set j (b1y (x.c j)) } by show(if yU x H j=true then _ else _)=_;rw[if_pos (uH Q)]);have EC:=uU (show(qK x z H j).c j=x.c j by rw[uH DC];exact(uH ZC j).2 hh)
       have GN:=uU (show GK B (wr.setCell ⟨bc,j*8+3,none⟩ (iv 2)) g (qK x z H (j+1)) ar kr ac kc vg br bc by
        rw[uH ET];refine⟨pb2,pa2,pk2,role2,g2.setc hjz (by rw[uH EC];rfl) (uX.setCell (S:=λq=>q=bc) (uX.refl _ wr) (p:=⟨bc,j*8+3,none⟩) rfl _) ?_ (λk hk=>uC _ (.inr (by omega))) ((g2.rw.nc hn).1.set _ _)⟩;rw[uH EC] at s7;obtain⟨a0,a1,a2,a3,a4,a5,a6⟩:=s7;refine⟨?_,?_,?_,World.cell?_setCell_same _ _ _ a3,?_,?_,?_⟩
        ·rw[uC _ (.inr (by omega))];exact a0
        ·rw[uC _ (.inr (by omega))];exact a1
        ·rw[uC _ (.inr (by omega))];exact a2
        ·rw[uC _ (.inr (by omega))];exact a4
        ·rw[uC _ (.inr (by omega))];exact a5
        ·rw[uC _ (.inr (by omega))];exact a6)
       have XN:=uU (show Ext a (wr.setCell ⟨bc,j*8+3,none⟩ (iv 2)) from(uH hX).setCell (p:=⟨bc,j*8+3,none⟩) (Nat.le_trans ha (g2.rw.nc hn).2) _);have SNN:=uU (show ∀q,q<x.cells.length->(wr.setCell ⟨bc,j*8+3,none⟩ (iv 2)).cell? ⟨w.heap.size,q,none⟩=some (.bool (H q)) from λq hq=>by rw[uC _ (.inl (λe=>uH SB e.symm))];exact uH hS q hq);clear g2 s7;go_wp2_with fail;go_roundw
       case rel=>exact⟨j+1,by omega,by go_num,by rw[uH EN,uH wd];refine congrArg (Value.int IntKind.i64) ?_;omega,uH GN,uH SNN,uH XN⟩
       case measure=>simp [intOf];omega
      ·rw[hh] at c0;have N:=uU (uH NO (by simp [yU,hh]));clear g2 s7;go_wp2_with fail;go_roundw
       case rel=>exact⟨j+1,by omega,by go_num,by rw[(uH N).1],by rw[(uH N).2];exact uH hG,uH hS,uH hX⟩
       case measure=>simp [intOf];omega
    ·have je:j=x.cells.length:=by omega
     subst je;go_wp2_with fail;go_ret2;exact⟨H,rfl,uH HI,by rw[uH ZE];exact(uH hG).ok,uH hX⟩
end Go.Proofs.YtddkhnclmeikfaaGreat
