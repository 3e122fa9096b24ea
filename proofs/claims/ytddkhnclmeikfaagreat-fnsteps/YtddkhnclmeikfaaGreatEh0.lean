import Derived.Test.YtddkhnclmeikfaaGreatVf
set_option maxRecDepth 100000
set_option maxHeartbeats 2000000
namespace Go.Proofs.YtddkhnclmeikfaaGreat
open Go.RowKit
attribute [local go_sem ↓] Go.wp_at_zero Go.wp_at_succ
variable{w W:World}{B g kc:Nat}{x y:Hp}{vr vc vg:Value}
theorem b5o[Inhabited uN]{B:Nat}{w:World}{g:Nat}{x:Hp}{ar:Option Addr}{kr:Nat}{ac:Option Addr}{kc:Nat}{vg:Value}{br bc:Nat}(h:GK B w g x ar kr ac kc vg br bc)(s:Snd x)(a:World)(ha:a.heap.size<=B)(hx:Ext a w):
  Calls Tryz.prog 90 #[.pointer (some ⟨g,0,none⟩)] w λe w'=>∃H:Nat->Bool,e=.returned (.tuple #[.int .i64 (a1j x H x.cells.length),.int .i64 (a5q x H x.cells.length)])/\Hid (∀i,H i=true↔tH x i)/\GOk B w' g (a4e x H)/\Ext a w':=by
 have G0:=uU h;have S:=uU s;obtain⟨pb,pa,pk,role,h⟩:=h;obtain⟨ag,kg,hat⟩:=h.hat s;have QH:=uU (b0r x g w hat s.r2 s.r4 s.ok.n8);have n8:=s.ok.n8;have hgw:g<w.heap.size:=h.nf.1;have r0:0<x.regs.length:=by rw[s.r1.regs];omega
 have USED:=uU (show 0<=x.used/\x.used<=4000 by have h1:=s.r3.1;have h2:=s.r3.2;have h3:=s.r1.room;omega);have BC:=uU (show 0<x.cells.length->bc<w.heap.size from λhn=>(h.rw.nc hn).1.1);clear h s hat;go_enter Tryz.func90,Tryz.ntmps90;go_wp2_with fail;refine(uH QH).mono ?_;rintro e w1 ⟨v,L,rfl,sn,hL,q1⟩;obtain⟨H,hH⟩:∃H:Nat->Bool,H=(λi:Nat=>decide ((i:Int)∈L)):=⟨_,rfl⟩;have HI:=uU (show ∀i,H i=true↔tH x i from λi=>by rw[hH];simp only [decide_eq_true_eq];exact uH hL i);have SN:=uU (show ∀j,j<x.cells.length->w1.cell? ⟨w.heap.size,j,none⟩=some (.bool (H j)) from λj hj=>by rw[hH];exact sn.s j hj);have hs1:w.heap.size<w1.heap.size:=sn.hb.2;have G1:=uU ((uH G0).ext q1);have X1:=uU (hx.trans q1);have c4:w1.cell? ⟨g,4,none⟩=some (.slice ac x.cells.length kc):=by obtain⟨_,_,_,_,h1⟩:=uH G1;exact h1.bx.2.2.2.2.1
 have hg1:g<w1.heap.size:=uL c4;clear hH sn hL QH G0;go_wp2_with fail;go_loopw [5,19] (λgn si wr=>∃i:Nat,i<=x.cells.length/\si=.int .i64 i/\gn=.int .i64 (a1j x H i)/\Hid (GK B wr g (cV x H i) ar kr ac kc vg br bc)/\Hid (∀j,j<x.cells.length->wr.cell? ⟨w.heap.size,j,none⟩=some (.bool (H j)))/\Hid (Ext a wr)) (λ_ si _=>x.cells.length-(intOf si).toNat)
 case atStart=>exact⟨0,Nat.zero_le _,rfl,rfl,uH G1,uH SN,uH X1⟩
 case round=>
  clear G1 SN X1 c4 hg1 hs1;obtain⟨i,hi,rfl,rfl,hG,hS,hX⟩:=hrel;by_cases hlt:i<x.cells.length
  ·have c0:=uH hS i hlt;have k0:(0:Int)<=(i:Int):=by omega
   have k1:(i:Int)<(x.cells.length:Int):=by omega
   cases hh:H i
   ·rw[hh] at c0;have E:=uU (show cV x H (i+1)=cV x H i by show(if H i=true then _ else _)=_;rw[if_neg (by simp [hh])]);have E2:=uU (show a1j x H (i+1)=a1j x H i by show(if H i=true then _ else _)=_;rw[if_neg (by simp [hh])]);go_wp2_with fail;go_roundw
    case rel=>exact⟨i+1,by omega,by go_num,by rw[uH E2],by rw[uH E];exact uH hG,uH hS,uH hX⟩
    case measure=>simp [intOf];omega
   ·rw[hh] at c0;have HD:=uU ((uH HI i).1 hh);obtain⟨pb1,pa1,pk1,role1,g1⟩:=uH hG;have LEN:=uU (a2a x H i);have CI:=uU (show(cV x H i).c i=x.c i by rw[a9d x H i hi i,if_neg (by omega)]);have hn:0<(cV x H i).cells.length:=by rw[uH LEN];omega
    have c4:=g1.bx.2.2.2.2.1;rw[g1.hc hn,uH LEN] at c4;have p7:=g1.rw.p7 i (by rw[uH LEN];exact hlt);rw[uH CI] at p7;have hgr:g<wr.heap.size:=uL c4;have hbr:bc<wr.heap.size:=uL p7;have l200:=(uH S).ok.p200 i hlt;have TOP:=uU (inH_top x H (cV x H i) i (by rw[uH LEN];exact hlt) (uH CI));have GT:=uU (show GK B wr g (inH x H (cV x H i) i (x.c i).prs.length) ar kr ac kc vg br bc by rw[uH TOP];exact uH hG);have NIL:=uU (show tY x H (x.c i) ((x.c i).prs.drop (x.c i).prs.length)=0 by rw[List.drop_length];rfl);clear g1;go_wp2_with fail;go_loopw [5,7] (λgn sk wr=>∃k:Nat,k<=(x.c i).prs.length/\sk=.int .i64 ((k:Int)-1)/\gn=.int .i64 ((a1j x H i:Int)+(tY x H (x.c i) ((x.c i).prs.drop k):Int))/\Hid (GK B wr g (inH x H (cV x H i) i k) ar kr ac kc vg br bc)/\Hid (∀j,j<x.cells.length->wr.cell? ⟨w.heap.size,j,none⟩=some (.bool (H j)))/\Hid (Ext a wr)) (λ_ sk _=>(intOf sk+1).toNat)
    case atStart=>exact⟨(x.c i).prs.length,Nat.le_refl _,rfl,by rw[uH NIL];simp,uH GT,uH hS,uH hX⟩
    case round=>
     clear GT hS hX hG c0 c4 p7 hgr hbr TOP NIL;obtain⟨k,hk,rfl,rfl,hG,hS,hX⟩:=hrel;cases k with
     | zero=>
      have E:=uU (c2w x H i hh);have E2:=uU (show a1j x H (i+1)=a1j x H i+tY x H (x.c i) ((x.c i).prs.drop 0) by show(if H i=true then _ else _)=_;rw[if_pos hh];rfl);go_wp2_with fail;go_roundw
      case rel=>exact⟨i+1,by omega,by go_num,by rw[uH E2];simp,by rw[uH E];exact uH hG,uH hS,uH hX⟩
      case measure=>simp [intOf];omega
     | succ k=>
      have ek:(((k+1:Nat):Int)-1)=(k:Int):=by omega
      rw[ek];have hkl:k<(x.c i).prs.length:=by omega
      obtain⟨z,hz⟩:∃z,z=inH x H (cV x H i) i (k+1):=⟨_,rfl⟩;have HZ:=uU hz;rw[<-hz] at hG;have ZL:=uU (show z.cells.length=x.cells.length by rw[hz,inH_len,uH LEN]);have ZC:=uU (show z.c i={ x.c i with prs:=(x.c i).prs.take (k+1)++yD x H (x.c i) ((x.c i).prs.drop (k+1)) } by rw[hz];exact inH_c x H _ i (k+1) (by rw[uH LEN];exact hlt));have ZST:=uU (show ∀q,(z.c q).st=(x.c q).st/\(z.c q).to=(x.c q).to from λq=>by rw[hz];exact inH_st x H _ i (k+1) (by rw[uH LEN];exact hlt) (c5z x H i hi) q);obtain⟨m,hm⟩:∃m,m=(z.c i).prs.length:=⟨_,rfl⟩;have hmk:k<m:=by rw[hm,uH ZC];simp;omega
      have hm200:m<=200:=by have h1:=a7b x H (x.c i) ((x.c i).prs.drop (k+1));rw[hm,uH ZC];simp at h1 ⊢;omega
      obtain⟨pb2,pa2,pk2,role2,g2⟩:=uH hG;have hiz:i<z.cells.length:=by rw[uH ZL];exact hlt
      have hn:0<z.cells.length:=by omega
      have c4:=g2.bx.2.2.2.2.1;rw[g2.hc hn,uH ZL] at c4;have p7:=g2.rw.p7 i hiz;rw[(g2.rw.pl i hiz (g2.rw.pw hiz (by rw[<-hm];omega))).1,<-hm] at p7;have s2:=(g2.rw.s i hiz).2.2.1;have wk:(z.c i).weak=(x.c i).weak:=by rw[uH ZC]
      rw[wk] at s2;obtain⟨y,hy⟩:∃y,y=(x.c i).prs[k]:=⟨_,rfl⟩
      have PY:=uU (show tL wr (pb2 i) (k*6) y by
       have h1:=g2.rw.p i hiz k (by rw[<-hm];exact hmk)
       have h2:(z.c i).p k=y:=by
        rw[hy,uH ZC];simp only [Cl.p];rw[List.getD_eq_getElem?_getD,List.getElem?_append_left (by simp;omega),List.getElem?_take,if_pos (by omega),List.getElem?_eq_getElem hkl];rfl
       rw[h2] at h1;exact h1)
      obtain⟨e0,e1,e2,e3,e4,e5⟩:=uH PY;have hgr:g<wr.heap.size:=uL c4;have hbr:bc<wr.heap.size:=uL p7;have hpr:pb2 i<wr.heap.size:=uL e0;have t0:(0:Int)<=(k:Int):=by omega
      have t1:(k:Int)<(m:Int):=by omega
      have UO:=uU (show(x.c i).st=1/\0<=(x.c i).weak/\(x.c i).weak<=3 by
       have g:=(uH HD).good (uH S).r2 (uH S).r4;have:=(uH S).r2.1 i hlt;unfold cE a2i at this;have:=g.2.1;omega)
      have SEENW:=uU (show ∀W,Ext wr W->∀j,j<z.cells.length->W.cell? ⟨w.heap.size,j,none⟩=some (.bool (H j)) from λW xw j hj=>xw.keep (uH hS j (by rw[uH ZL] at hj;exact hj)))
      have FK:=uU (show uK y.key x.cells.length/\uK y.val x.cells.length by
       have:=c2v (uH S) (uH HD) k hkl;rw[<-Cl.p_eq _ _ hkl,<-hy] at this;exact this)
      have LOST:=uU (show ∀u,uK u x.cells.length->∀W,Ext wr W->Calls Tryz.prog 148 #[.pointer (some ⟨g,0,none⟩),.slice (some ⟨w.heap.size,0,none⟩) x.cells.length x.cells.length,u.v] W λe w'=>e=.returned (.bool (tZ x H u))/\Ext W w' from λu hu W xw=>by
       have:=b9s (g2.ext xw) H w.heap.size (uH SEENW W xw) u (by rw[uH ZL];exact hu) (by rw[b7m (uH ZST),uH ZL];exact res_in (uH S).r2 hu);rw[uH ZL,c2u (uH ZST)] at this;exact this)
      have SC:=uU (show dL x=(i:Int)->0<=(cV x H i).sub/\(cV x H i).sub<=(x.c i).prs.length from λe=>by rw[b4c x H i e i (Nat.le_refl _)];exact b7n (uH S) hlt (uH UO).1 e);have GONE:=uU (λq:goB x H (x.c i) y=true=>uU (show tY x H (x.c i) ((x.c i).prs.drop k)=tY x H (x.c i) ((x.c i).prs.drop (k+1))+1 by rw[a4u _ k hkl,a3i,<-hy,if_pos q]));have KEEP:=uU (λq:goB x H (x.c i) y=false=>And.intro (uU (show tY x H (x.c i) ((x.c i).prs.drop k)=tY x H (x.c i) ((x.c i).prs.drop (k+1)) by rw[a4u _ k hkl,a3i,<-hy,if_neg (by simp [q])])) (uU (show inH x H (cV x H i) i k=z by rw[uH HZ];exact c5x x H _ i k hkl (by rw[<-hy];exact q) (λe=>(uH SC e).2))));have NUM:=uU (inH_num x H (λq hq=>(uH S).ok.p200 q hq) i (k+1) hlt n8 (uH USED) (uH S).r1.sub);rw[<-uH HZ] at NUM;have SIZ:=uU (show w.heap.size<wr.heap.size from uL (uH hS i hlt))
      have CUT:=uU (λq:goB x H (x.c i) y=true=>show ∀W,Ext wr W->Calls Tryz.prog 149 #[.pointer (some ⟨g,0,none⟩),.int .i64 i,.int .i64 k] W λe w'=>e=.returned (.tuple #[])/\GK B w' g (inH x H (cV x H i) i k) ar kr ac kc vg br bc/\(∀j,j<x.cells.length->w'.cell? ⟨w.heap.size,j,none⟩=some (.bool (H j)))/\Ext a w' from λW xw=>by
       have zr:z.regs.length=x.regs.length:=by rw[uH HZ];show(cV x H i).regs.length=_;rw[(a5g x H i).2.2.2]
       refine(b4a ((uH hG).ext xw) i k hiz (by rw[<-hm];exact hmk) (by rw[zr];exact r0) (by rw[<-hm];exact hm200) (uH NUM).1 (uH NUM).2 (by rw[uH ZL];exact n8) a ha ((uH hX).trans xw)).mono ?_;rintro e w4 ⟨rfl,g4,f4,x4⟩;refine⟨rfl,?_,λj hj=>?_,x4⟩
       ·rw[uH HZ] at g4;rw[<-inH_cut x H (cV x H i) i k (by rw[uH LEN];exact hlt) hkl (by rw[<-hy];exact q) (uH SC) (b9t x H i)];exact g4
       ·refine(World.cell?_of_block (a:=⟨w.heap.size,j,none⟩) (f4.2 w.heap.size (Nat.lt_of_lt_of_le (uH SIZ) xw.size) (by omega) (by have:=uH BC (by omega);omega))).trans (xw.keep (uH hS j hj)))
      have GB:=uU (show goB x H (x.c i) y=((wkB (x.c i) && tZ x H y.key) || (wvB (x.c i) && tZ x H y.val)) from rfl)
      have WG:=uU (show wrap64 ((a1j x H i:Int)+(tY x H (x.c i) ((x.c i).prs.drop (k+1)):Int)+1)=(a1j x H i:Int)+(tY x H (x.c i) ((x.c i).prs.drop (k+1)):Int)+1 from by
       have h1:=a9z x H (λq hq=>(uH S).ok.p200 q hq) i hi;have h2:=a7e x H (x.c i) ((x.c i).prs.drop (k+1));have h3:((x.c i).prs.drop (k+1)).length<=200:=by simp;omega
       exact a7d _ (by omega) (by omega))
      have HM:=uU hm;clear g2 hy hz hm wk ek;have hw:(x.c i).weak=0\/(x.c i).weak=1\/(x.c i).weak=2\/(x.c i).weak=3:=by have:=(uH UO).2;omega
      rcases hw with e | e | e | e
      ·rw[e] at s2;have t:goB x H (x.c i) y=false:=by rw[uH GB];simp [wkB,wvB,e]
       clear e GB;go_wp2_with fail;go_roundw
       case rel=>exact⟨k,by omega,by go_num,by rw[uH (uH KEEP t).1],by rw[uH (uH KEEP t).2];exact(uH hG).ext ((Ext.refl wr).alloc (.cells #[iv y.key.k,iv y.key.n,iv y.key.a,iv y.val.k,iv y.val.n,iv y.val.a] 154)),λj hj=>(((Ext.refl wr).alloc (.cells #[iv y.key.k,iv y.key.n,iv y.key.a,iv y.val.k,iv y.val.n,iv y.val.a] 154))).keep (uH hS j hj),(uH hX).trans ((Ext.refl wr).alloc (.cells #[iv y.key.k,iv y.key.n,iv y.key.a,iv y.val.k,iv y.val.n,iv y.val.a] 154))⟩
       case measure=>simp [intOf]
      ·rw[e] at s2;have T:=uU (show goB x H (x.c i) y=tZ x H y.key by rw[uH GB];simp [wkB,wvB,e]);clear e GB;go_wp2_with fail;refine(uH LOST y.key (uH FK).1 _ ((Ext.refl wr).alloc (.cells #[iv y.key.k,iv y.key.n,iv y.key.a,iv y.val.k,iv y.val.n,iv y.val.a] 154))).mono ?_;rintro e w2 ⟨rfl,q2⟩;have xq:=((Ext.refl wr).alloc (.cells #[iv y.key.k,iv y.key.n,iv y.key.a,iv y.val.k,iv y.val.n,iv y.val.a] 154)).trans q2;cases t0:tZ x H y.key
       ·have t:goB x H (x.c i) y=false:=by rw[uH T];exact t0
        go_wp2_with fail;go_roundw
        case rel=>exact⟨k,by omega,by go_num,by rw[uH (uH KEEP t).1],by rw[uH (uH KEEP t).2];exact(uH hG).ext xq,λj hj=>(xq).keep (uH hS j hj),(uH hX).trans xq⟩
        case measure=>simp [intOf]
       ·have t:goB x H (x.c i) y=true:=by rw[uH T];exact t0
        go_wp2_with fail;refine(uH CUT t _ xq).mono ?_;rintro e w4 ⟨rfl,g4,s4,x4⟩;have G4:=uU g4;have S4:=uU s4;have X4:=uU x4;have EG:=uU (uH (uH GONE t));clear g4 s4 x4;go_wp2_with fail;go_roundw
        case rel=>exact⟨k,by omega,by go_num,by rw[uH EG,uH WG];refine congrArg (Value.int IntKind.i64) ?_;omega,uH G4,uH S4,uH X4⟩
        case measure=>simp [intOf]
      ·rw[e] at s2;have T:=uU (show goB x H (x.c i) y=tZ x H y.val by rw[uH GB];simp [wkB,wvB,e]);clear e GB;go_wp2_with fail;refine(uH LOST y.val (uH FK).2 _ ((Ext.refl wr).alloc (.cells #[iv y.key.k,iv y.key.n,iv y.key.a,iv y.val.k,iv y.val.n,iv y.val.a] 154))).mono ?_;rintro e w2 ⟨rfl,q2⟩;have xq:=((Ext.refl wr).alloc (.cells #[iv y.key.k,iv y.key.n,iv y.key.a,iv y.val.k,iv y.val.n,iv y.val.a] 154)).trans q2;cases t0:tZ x H y.val
       ·have t:goB x H (x.c i) y=false:=by rw[uH T];exact t0
        go_wp2_with fail;go_roundw
        case rel=>exact⟨k,by omega,by go_num,by rw[uH (uH KEEP t).1],by rw[uH (uH KEEP t).2];exact(uH hG).ext xq,λj hj=>(xq).keep (uH hS j hj),(uH hX).trans xq⟩
        case measure=>simp [intOf]
       ·have t:goB x H (x.c i) y=true:=by rw[uH T];exact t0
        go_wp2_with fail;refine(uH CUT t _ xq).mono ?_;rintro e w4 ⟨rfl,g4,s4,x4⟩;have G4:=uU g4;have S4:=uU s4;have X4:=uU x4;have EG:=uU (uH (uH GONE t));clear g4 s4 x4;go_wp2_with fail;go_roundw
        case rel=>exact⟨k,by omega,by go_num,by rw[uH EG,uH WG];refine congrArg (Value.int IntKind.i64) ?_;omega,uH G4,uH S4,uH X4⟩
        case measure=>simp [intOf]
      ·rw[e] at s2;have T:=uU (show goB x H (x.c i) y=(tZ x H y.key || tZ x H y.val) by rw[uH GB];simp [wkB,wvB,e]);clear e GB;go_wp2_with fail;refine(uH LOST y.key (uH FK).1 _ ((Ext.refl wr).alloc (.cells #[iv y.key.k,iv y.key.n,iv y.key.a,iv y.val.k,iv y.val.n,iv y.val.a] 154))).mono ?_;rintro e w2 ⟨rfl,q2⟩;have xq:=((Ext.refl wr).alloc (.cells #[iv y.key.k,iv y.key.n,iv y.key.a,iv y.val.k,iv y.val.n,iv y.val.a] 154)).trans q2;cases t0:tZ x H y.key
       ·have b3:w2.cell? ⟨wr.heap.size,3,none⟩=some (iv y.val.k):=q2.keep (by simp [go_sem]);have b4:w2.cell? ⟨wr.heap.size,4,none⟩=some (iv y.val.n):=q2.keep (by simp [go_sem]);have b5:w2.cell? ⟨wr.heap.size,5,none⟩=some (iv y.val.a):=q2.keep (by simp [go_sem]);go_wp2_with fail;refine(uH LOST y.val (uH FK).2 _ xq).mono ?_;rintro e w3 ⟨rfl,q3⟩;have xr:=xq.trans q3;cases t1:tZ x H y.val
        ·have t:goB x H (x.c i) y=false:=by rw[uH T,t0,t1];rfl
         go_wp2_with fail;go_roundw
         case rel=>exact⟨k,by omega,by go_num,by rw[uH (uH KEEP t).1],by rw[uH (uH KEEP t).2];exact(uH hG).ext xr,λj hj=>(xr).keep (uH hS j hj),(uH hX).trans xr⟩
         case measure=>simp [intOf]
        ·have t:goB x H (x.c i) y=true:=by rw[uH T,t0,t1];rfl
         go_wp2_with fail;refine(uH CUT t _ xr).mono ?_;rintro e w4 ⟨rfl,g4,s4,x4⟩;have G4:=uU g4;have S4:=uU s4;have X4:=uU x4;have EG:=uU (uH (uH GONE t));clear g4 s4 x4;go_wp2_with fail;go_roundw
         case rel=>exact⟨k,by omega,by go_num,by rw[uH EG,uH WG];refine congrArg (Value.int IntKind.i64) ?_;omega,uH G4,uH S4,uH X4⟩
         case measure=>simp [intOf]
       ·have t:goB x H (x.c i) y=true:=by rw[uH T,t0];rfl
        go_wp2_with fail;refine(uH CUT t _ xq).mono ?_;rintro e w4 ⟨rfl,g4,s4,x4⟩;have G4:=uU g4;have S4:=uU s4;have X4:=uU x4;have EG:=uU (uH (uH GONE t));clear g4 s4 x4;go_wp2_with fail;go_roundw
        case rel=>exact⟨k,by omega,by go_num,by rw[uH EG,uH WG];refine congrArg (Value.int IntKind.i64) ?_;omega,uH G4,uH S4,uH X4⟩
        case measure=>simp [intOf]
  ·have ie:i=x.cells.length:=by omega
   subst ie;have LEN:=uU (a2a x H x.cells.length);have c4:wr.cell? ⟨g,4,none⟩=some (.slice ac x.cells.length kc):=by obtain⟨_,_,_,_,g1⟩:=uH hG;have:=g1.bx.2.2.2.2.1;rw[uH LEN] at this;exact this
   have hgr:g<wr.heap.size:=uL c4;obtain⟨z,hz⟩:∃z,z=cV x H x.cells.length:=⟨_,rfl⟩;have ZE:=uU (show a4e x H=zU x z H x.cells.length by rw[hz];rfl);have ZLEN:=uU (show z.cells.length=x.cells.length by rw[hz];exact uH LEN)
   have ZC:=uU (show ∀q,(z.c q).last=(x.c q).last/\(H q=false->z.c q=x.c q) from λq=>by
    rw[hz,a9d x H _ (Nat.le_refl _) q]
    split
    ·rename_i h;exact⟨rfl,λe=>by rw[e] at h;exact absurd h.2 (by simp)⟩
    ·exact⟨rfl,λ_=>rfl⟩)
   rw[<-hz] at hG;clear hz LEN;go_wp2_with fail;go_loopw [10,94] (λdn si wr=>∃j:Nat,j<=x.cells.length/\si=.int .i64 j/\dn=.int .i64 (a5q x H j)/\Hid (GK B wr g (zU x z H j) ar kr ac kc vg br bc)/\Hid (∀j,j<x.cells.length->wr.cell? ⟨w.heap.size,j,none⟩=some (.bool (H j)))/\Hid (Ext a wr)) (λ_ si _=>x.cells.length-(intOf si).toNat)
   case atStart=>exact⟨0,Nat.zero_le _,rfl,rfl,uH hG,uH hS,uH hX⟩
   case round=>
    clear hG hS hX c4 hgr;obtain⟨j,hj,rfl,rfl,hG,hS,hX⟩:=hrel;by_cases hlt:j<x.cells.length
    ·obtain⟨pb2,pa2,pk2,role2,g2⟩:=uH hG;have DL:=uU (show(zU x z H j).cells.length=x.cells.length by rw[a3j,uH ZLEN]);have hjz:j<(zU x z H j).cells.length:=by rw[uH DL];exact hlt
     have hn:0<(zU x z H j).cells.length:=by omega
     have DC:=uU (c1g x z H j (by rw[uH ZLEN];exact hj) j (Nat.le_refl _));have c4:=g2.bx.2.2.2.2.1;rw[g2.hc hn,uH DL] at c4;have s7:=g2.rw.s j hjz;have p3:=s7.2.2.2.1;rw[uH DC,(uH ZC j).1] at p3;have c0:=uH hS j hlt;have fc:=(g2.rw.nc hn).1.2 (j*8+3);have hgr:g<wr.heap.size:=uL c4;have hbr:bc<wr.heap.size:=uL p3;have k0:(0:Int)<=(j:Int):=by omega
     have k1:(j:Int)<(x.cells.length:Int):=by omega
     have wd:=uU (a7d ((a5q x H j:Int)+1) (by omega) (by have:=c1h x H j;omega));have SB:=uU (show w.heap.size≠bc by have:=uH BC (by omega);omega);have NO:=uU (λq:a7h x H j=false=>And.intro (show a5q x H (j+1)=a5q x H j by show(if a7h x H j=true then _ else _)=_;rw[if_neg (by simp [q])]) (show zU x z H (j+1)=zU x z H j by show(if a7h x H j=true then _ else _)=_;rw[if_neg (by simp [q])]));cases q1:((x.c j).last == 1)
     ·have N:=uU (uH NO (by simp [a7h,q1]));clear g2 s7;go_wp2_with fail;go_roundw
      case rel=>exact⟨j+1,by omega,by go_num,by rw[(uH N).1],by rw[(uH N).2];exact uH hG,uH hS,uH hX⟩
      case measure=>simp [intOf];omega
     ·cases hh:H j
      ·rw[hh] at c0;have Q:=uU (show a7h x H j=true by simp [a7h,q1,hh]);have EN:=uU (show a5q x H (j+1)=a5q x H j+1 by show(if a7h x H j=true then _ else _)=_;rw[if_pos (uH Q)]);have ET:=uU (show zU x z H (j+1)={ zU x z H j with cells:=(zU x z H j).cells.set j (b5k (x.c j)) } by show(if a7h x H j=true then _ else _)=_;rw[if_pos (uH Q)]);have EC:=uU (show(zU x z H j).c j=x.c j by rw[uH DC];exact(uH ZC j).2 hh)
       have GN:=uU (show GK B (wr.setCell ⟨bc,j*8+3,none⟩ (iv 2)) g (zU x z H (j+1)) ar kr ac kc vg br bc by
        rw[uH ET];refine⟨pb2,pa2,pk2,role2,g2.setc hjz (by rw[uH EC];rfl) (uX.setCell (S:=λq=>q=bc) (uX.refl _ wr) (p:=⟨bc,j*8+3,none⟩) rfl _) ?_ (λk hk=>uC _ (.inr (by omega))) ((g2.rw.nc hn).1.set _ _)⟩;rw[uH EC] at s7;obtain⟨a0,a1,a2,a3,a4,a5,a6⟩:=s7;refine⟨?_,?_,?_,World.cell?_setCell_same _ _ _ a3,?_,?_,?_⟩
        ·rw[uC _ (.inr (by omega))];exact a0
        ·rw[uC _ (.inr (by omega))];exact a1
        ·rw[uC _ (.inr (by omega))];exact a2
        ·rw[uC _ (.inr (by omega))];exact a4
        ·rw[uC _ (.inr (by omega))];exact a5
        ·rw[uC _ (.inr (by omega))];exact a6)
       have XN:=uU (show Ext a (wr.setCell ⟨bc,j*8+3,none⟩ (iv 2)) from(uH hX).setCell (p:=⟨bc,j*8+3,none⟩) (Nat.le_trans ha (g2.rw.nc hn).2) _);have SNN:=uU (show ∀q,q<x.cells.length->(wr.setCell ⟨bc,j*8+3,none⟩ (iv 2)).cell? ⟨w.heap.size,q,none⟩=some (.bool (H q)) from λq hq=>by rw[uC _ (.inl (λe=>uH SB e.symm))];exact uH hS q hq);clear g2 s7;go_wp2_with fail;go_roundw
       case rel=>exact⟨j+1,by omega,by go_num,by rw[uH EN,uH wd];refine congrArg (Value.int IntKind.i64) ?_;omega,uH GN,uH SNN,uH XN⟩
       case measure=>simp [intOf];omega
      ·rw[hh] at c0;have N:=uU (uH NO (by simp [a7h,hh]));clear g2 s7;go_wp2_with fail;go_roundw
       case rel=>exact⟨j+1,by omega,by go_num,by rw[(uH N).1],by rw[(uH N).2];exact uH hG,uH hS,uH hX⟩
       case measure=>simp [intOf];omega
    ·have je:j=x.cells.length:=by omega
     subst je;go_wp2_with fail;go_ret2;exact⟨H,rfl,uH HI,by rw[uH ZE];exact(uH hG).ok,uH hX⟩
theorem dW.set9(h:dW w B x vr vc vg)(u:Int):dW (w.setCell ⟨B,9,none⟩ (iv u)) B { x with per:=u } vr vc vg:=by
 obtain⟨h0,h1,h2,h3,h4,h5,h6,h7,h8,h9,h10,h11,h12⟩:=h;exact⟨by rw[uC _ (.inr (by omega))];exact h0,by rw[uC _ (.inr (by omega))];exact h1,by rw[uC _ (.inr (by omega))];exact h2,by rw[uC _ (.inr (by omega))];exact h3,by rw[uC _ (.inr (by omega))];exact h4,by rw[uC _ (.inr (by omega))];exact h5,by rw[uC _ (.inr (by omega))];exact h6,by rw[uC _ (.inr (by omega))];exact h7,by rw[uC _ (.inr (by omega))];exact h8,World.cell?_setCell_same _ _ _ h9,by rw[uC _ (.inr (by omega))];exact h10,by rw[uC _ (.inr (by omega))];exact h11,by rw[uC _ (.inr (by omega))];exact h12⟩
theorem dW.set10(h:dW w B x vr vc vg)(u:Int):dW (w.setCell ⟨B,10,none⟩ (iv u)) B { x with start:=u } vr vc vg:=by
 obtain⟨h0,h1,h2,h3,h4,h5,h6,h7,h8,h9,h10,h11,h12⟩:=h;exact⟨by rw[uC _ (.inr (by omega))];exact h0,by rw[uC _ (.inr (by omega))];exact h1,by rw[uC _ (.inr (by omega))];exact h2,by rw[uC _ (.inr (by omega))];exact h3,by rw[uC _ (.inr (by omega))];exact h4,by rw[uC _ (.inr (by omega))];exact h5,by rw[uC _ (.inr (by omega))];exact h6,by rw[uC _ (.inr (by omega))];exact h7,by rw[uC _ (.inr (by omega))];exact h8,by rw[uC _ (.inr (by omega))];exact h9,World.cell?_setCell_same _ _ _ h10,by rw[uC _ (.inr (by omega))];exact h11,by rw[uC _ (.inr (by omega))];exact h12⟩
theorem GOk.set9[Inhabited uN](h:GOk B w g x)(v:Int):GOk B (w.setCell ⟨g,9,none⟩ (iv v)) g { x with per:=v }:=by
 obtain⟨ar,kr,ac,kc,vg,br,bc,pb,pa,pk,role,h⟩:=h;exact⟨_,_,_,_,_,_,_,_,_,_,_,h.boxed (x':={ x with per:=v }) (uX.setCell (S:=λq=>q=g) (uX.refl _ w) (p:=⟨g,9,none⟩) rfl _) (h.nf.set _ _) rfl rfl rfl (h.bx.set9 v)⟩
theorem GOk.set10[Inhabited uN](h:GOk B w g x)(v:Int):GOk B (w.setCell ⟨g,10,none⟩ (iv v)) g { x with start:=v }:=by
 obtain⟨ar,kr,ac,kc,vg,br,bc,pb,pa,pk,role,h⟩:=h;exact⟨_,_,_,_,_,_,_,_,_,_,_,h.boxed (x':={ x with start:=v }) (uX.setCell (S:=λq=>q=g) (uX.refl _ w) (p:=⟨g,10,none⟩) rfl _) (h.nf.set _ _) rfl rfl rfl (h.bx.set10 v)⟩
theorem l5do_22[p:Inhabited uN](B g:Nat)(x:Hp)(a b c:Nat)(n:Int)(w:World)(h:GOk B w g x)(s:Snd x)(ok:dU 22 a b c n=true)(hc:c<=100000)(v:World)(hv:v.heap.size<=B)(hx:Ext v w):
  Calls Tryz.prog 234 #[.pointer (some ⟨g,0,none⟩),qZ 22 a b c n] w λe w'=>dC B g x a b c n 22 v e w':=by
 obtain⟨p1,o1,g1⟩:=GOk.enter h (w0:=doW w 22 a b c n) (((Ext.refl w).alloc _).alloc _);have HG:=uU g1;have S:=uU s;have O1:=uU o1;have QA:=uU (λW=>hE 22 a b c n W);rw[ok] at QA;have V0:=uU (show v.heap.size<=w.heap.size+1 by have:=hx.size;omega);have XD:=uU (show Ext v (doW w 22 a b c n) from(hx.alloc _).alloc _);have BX:=uU (eQ.new w 22 a b c n);clear h s o1 g1;go_enter Tryz.func234,Tryz.ntmps234;go_wp2_with fail;refine(QA _).mono ?_;rintro e w1 ⟨rfl,x1⟩;have X1:=uU (XD.trans x1);have BX1:=uU (BX.ext x1);obtain⟨t0,t1,t2,t3,t4,t5,t6,t7⟩:=uH BX1;have hw1:w.heap.size+1<w1.heap.size:=uL t5;have hw0:w.heap.size<w1.heap.size:=uL t0;have G1:=uU (HG.ext x1);clear x1 QA BX1 BX XD HG;go_wp2_with fail;refine(a5d B g x c _ G1 S hc v hv X1).mono ?_;rintro e w2 ⟨k,rfl,st,h2,x2⟩;have G2:=uU h2;clear h2;go_wp2_with fail;refine(cK 0 _).mono ?_;rintro e w3 ⟨rfl,x3⟩;have G3:=uU (G2.ext x3);have X3:=uU (x2.trans x3);clear x3 t0 t1 t2 t3 t4 t5 t6 t7;obtain⟨u0,u1,u2,u3,u4,u5,u6,u7⟩:=G3.boxes O1;have hw3:w.heap.size+1<w3.heap.size:=uL u5;go_wp2_with fail;refine bodyPost_ret (v:=eY 0 0) (by simp [results,Tryz.results234,go_sem,u5,u6]) rfl ?_;exact⟨_,0,0,rfl,⟨rfl,rfl,k,st,rfl⟩,GOk.done O1 G3 0 0,uW X3 V0 0 0⟩
theorem l5do_24[p:Inhabited uN](B g:Nat)(x:Hp)(a b c:Nat)(n:Int)(w:World)(h:GOk B w g x)(s:Snd x)(ok:dU 24 a b c n=true)(v:World)(hv:v.heap.size<=B)(hx:Ext v w):
  Calls Tryz.prog 234 #[.pointer (some ⟨g,0,none⟩),qZ 24 a b c n] w λe w'=>dC B g x a b c n 24 v e w':=by
 obtain⟨p1,o1,g1⟩:=GOk.enter h (w0:=doW w 24 a b c n) (((Ext.refl w).alloc _).alloc _);have HG:=uU g1;have S:=uU s;have O1:=uU o1;have QA:=uU (λW=>hE 24 a b c n W);rw[ok] at QA;have V0:=uU (show v.heap.size<=w.heap.size+1 by have:=hx.size;omega);have XD:=uU (show Ext v (doW w 24 a b c n) from(hx.alloc _).alloc _);have BX:=uU (eQ.new w 24 a b c n);clear h s o1 g1;go_enter Tryz.func234,Tryz.ntmps234;go_wp2_with fail;refine(QA _).mono ?_;rintro e w1 ⟨rfl,x1⟩;have X1:=uU (XD.trans x1);have BX1:=uU (BX.ext x1);obtain⟨t0,t1,t2,t3,t4,t5,t6,t7⟩:=uH BX1;have hw1:w.heap.size+1<w1.heap.size:=uL t5;have hw0:w.heap.size<w1.heap.size:=uL t0;have G1:=uU (HG.ext x1);clear x1 QA BX1 BX XD HG;go_wp2_with fail;refine(b0o B g x _ G1 S v hv X1).mono ?_;rintro e w2 ⟨y,z,rfl,rr,h2,x2⟩;have G2:=uU h2;clear h2;go_wp2_with fail;refine(cK 0 _).mono ?_;rintro e w3 ⟨rfl,x3⟩;have G3:=uU (G2.ext x3);have X3:=uU (x2.trans x3);clear x3 t0 t1 t2 t3 t4 t5 t6 t7;obtain⟨u0,u1,u2,u3,u4,u5,u6,u7⟩:=G3.boxes O1;have hw3:w.heap.size+1<w3.heap.size:=uL u5;go_wp2_with fail;refine bodyPost_ret (v:=eY 0 0) (by simp [results,Tryz.results234,go_sem,u5,u6]) rfl ?_;exact⟨z,0,0,rfl,⟨rfl,rfl,y,rr.1,rr.2⟩,GOk.done O1 G3 0 0,uW X3 V0 0 0⟩
theorem l5do_23[p:Inhabited uN](B g:Nat)(x:Hp)(a b c:Nat)(n:Int)(w:World)(h:GOk B w g x)(ok:dU 23 a b c n=true)(v:World)(hv:v.heap.size<=B)(hx:Ext v w):
  Calls Tryz.prog 234 #[.pointer (some ⟨g,0,none⟩),qZ 23 a b c n] w λe w'=>dC B g x a b c n 23 v e w':=by
 obtain⟨p1,o1,g1⟩:=GOk.enter h (w0:=doW w 23 a b c n) (((Ext.refl w).alloc _).alloc _);have HG:=uU g1;have O1:=uU o1;have QA:=uU (λW=>hE 23 a b c n W);rw[ok] at QA;have V0:=uU (show v.heap.size<=w.heap.size+1 by have:=hx.size;omega);have XD:=uU (show Ext v (doW w 23 a b c n) from(hx.alloc _).alloc _);have BX:=uU (eQ.new w 23 a b c n);clear h o1 g1;go_enter Tryz.func234,Tryz.ntmps234;go_wp2_with fail;refine(QA _).mono ?_;rintro e w1 ⟨rfl,x1⟩;have X1:=uU (XD.trans x1);have BX1:=uU (BX.ext x1);obtain⟨t0,t1,t2,t3,t4,t5,t6,t7⟩:=uH BX1;have hw1:w.heap.size+1<w1.heap.size:=uL t5;have hw0:w.heap.size<w1.heap.size:=uL t0;have G1:=uU (HG.ext x1);clear x1 QA BX1 BX XD HG;obtain⟨c0,c1,c2,c5,c9,c10,c12⟩:=G1.nums;have fz:=G1.box.2.2.2.1;have lo:v.heap.size<=g:=Nat.le_trans hv G1.box.2.2.2.2.1;have hg1:g<w1.heap.size:=uL c0;have FN:=uU (show GOk B ((w1.setCell ⟨g,9,none⟩ (iv b)).setCell ⟨g,10,none⟩ (iv c)) g (paceTo x b c)/\Ext v ((w1.setCell ⟨g,9,none⟩ (iv b)).setCell ⟨g,10,none⟩ (iv c)) from⟨(G1.set9 b).set10 c,(X1.setCell (p:=⟨g,9,none⟩) lo _).setCell (p:=⟨g,10,none⟩) lo _⟩);clear c0 c1 c2 c5 c12;go_wp2_with fail;refine(cK 0 _).mono ?_;rintro e w3 ⟨rfl,x3⟩;have G3:=uU (FN.1.ext x3);have X3:=uU (FN.2.trans x3);clear x3 t0 t1 t2 t3 t4 t5 t6 t7 c9 c10 FN;obtain⟨u0,u1,u2,u3,u4,u5,u6,u7⟩:=G3.boxes O1;have hw3:w.heap.size+1<w3.heap.size:=uL u5;go_wp2_with fail;refine bodyPost_ret (v:=eY 0 0) (by simp [results,Tryz.results234,go_sem,u5,u6]) rfl ?_;exact⟨_,0,0,rfl,⟨rfl,rfl,rfl⟩,GOk.done O1 G3 0 0,uW X3 V0 0 0⟩
theorem l5do_18[p:Inhabited uN](B g:Nat)(x:Hp)(a b c:Nat)(n:Int)(w:World)(h:GOk B w g x)(s:Snd x)(ok:dU 18 a b c n=true)(v:World)(hv:v.heap.size<=B)(hx:Ext v w):
  Calls Tryz.prog 234 #[.pointer (some ⟨g,0,none⟩),qZ 18 a b c n] w λe w'=>dC B g x a b c n 18 v e w':=by
 obtain⟨p1,o1,g1⟩:=GOk.enter h (w0:=doW w 18 a b c n) (((Ext.refl w).alloc _).alloc _);have HG:=uU g1;have S:=uU s;have O1:=uU o1;have QA:=uU (λW=>hE 18 a b c n W);rw[ok] at QA;have V0:=uU (show v.heap.size<=w.heap.size+1 by have:=hx.size;omega);have XD:=uU (show Ext v (doW w 18 a b c n) from(hx.alloc _).alloc _);have BX:=uU (eQ.new w 18 a b c n);clear h s o1 g1;go_enter Tryz.func234,Tryz.ntmps234;go_wp2_with fail;refine(QA _).mono ?_;rintro e w1 ⟨rfl,x1⟩;have X1:=uU (XD.trans x1);have BX1:=uU (BX.ext x1);obtain⟨t0,t1,t2,t3,t4,t5,t6,t7⟩:=uH BX1;have hw1:w.heap.size+1<w1.heap.size:=uL t5;have hw0:w.heap.size<w1.heap.size:=uL t0;have G1:=uU (HG.ext x1);clear x1 QA BX1 BX XD HG
 have QS:=uU (show Calls Tryz.prog 90 #[.pointer (some ⟨g,0,none⟩)] w1 λe w'=>∃H:Nat->Bool,e=.returned (.tuple #[.int .i64 (a1j x H x.cells.length),.int .i64 (a5q x H x.cells.length)])/\Hid (∀i,H i=true↔tH x i)/\GOk B w' g (a4e x H)/\Ext v w' from by
  obtain⟨ar,kr,ac,kc,vg,br,bc,pb,pa,pk,role,h⟩:=G1;exact b5o ⟨pb,pa,pk,role,h⟩ S v hv X1)
 go_wp2_with fail;refine QS.mono ?_;rintro e w2 ⟨H,rfl,hh,h2,x2⟩;have G2:=uU h2;clear h2;go_wp2_with fail;refine(cK (a5q x H x.cells.length:Nat) _).mono ?_;rintro e w3 ⟨rfl,x3⟩;have G3:=uU (G2.ext x3);have X3:=uU (x2.trans x3);clear x3 t0 t1 t2 t3 t4 t5 t6 t7;obtain⟨u0,u1,u2,u3,u4,u5,u6,u7⟩:=G3.boxes O1;have hw3:w.heap.size+1<w3.heap.size:=uL u5;go_wp2_with fail;refine bodyPost_ret (v:=eY 0 (a5q x H x.cells.length:Nat)) (by simp [results,Tryz.results234,go_sem,u5,u6]) rfl ?_;exact⟨_,0,(a5q x H x.cells.length:Nat),rfl,⟨rfl,H,hh,rfl,rfl⟩,GOk.done O1 G3 0 (a5q x H x.cells.length:Nat),uW X3 V0 0 (a5q x H x.cells.length:Nat)⟩
theorem l5do_21[p:Inhabited uN](B g:Nat)(x:Hp)(a b c:Nat)(n:Int)(w:World)(h:GOk B w g x)(s:Snd x)(ok:dU 21 a b c n=true)(v:World)(hx:Ext v w):
  Calls Tryz.prog 234 #[.pointer (some ⟨g,0,none⟩),qZ 21 a b c n] w λe w'=>dC B g x a b c n 21 v e w':=by
 obtain⟨p1,o1,g1⟩:=GOk.enter h (w0:=doW w 21 a b c n) (((Ext.refl w).alloc _).alloc _);have HG:=uU g1;have S:=uU s;have O1:=uU o1;have QA:=uU (λW=>hE 21 a b c n W);rw[ok] at QA;have V0:=uU (show v.heap.size<=w.heap.size+1 by have:=hx.size;omega);have XD:=uU (show Ext v (doW w 21 a b c n) from(hx.alloc _).alloc _);have BX:=uU (eQ.new w 21 a b c n);clear h s o1 g1;go_enter Tryz.func234,Tryz.ntmps234;go_wp2_with fail;refine(QA _).mono ?_;rintro e w1 ⟨rfl,x1⟩;have X1:=uU (XD.trans x1);have BX1:=uU (BX.ext x1);obtain⟨t0,t1,t2,t3,t4,t5,t6,t7⟩:=uH BX1;have hw1:w.heap.size+1<w1.heap.size:=uL t5;have hw0:w.heap.size<w1.heap.size:=uL t0;have G1:=uU (HG.ext x1);clear x1 QA BX1 BX XD HG
 have QL:=uU (show Calls Tryz.prog 75 #[.pointer (some ⟨g,0,none⟩)] w1 λe w'=>∃r:Nat,Hid (e=.returned (.int .i64 (r:Int)))/\c5t x r/\Ext w1 w' from by
  obtain⟨ar,kr,ac,kc,vg,br,bc,pb,pa,pk,role,h⟩:=G1;obtain⟨ag,kg,hat⟩:=h.hat S;exact b9q x g w1 hat S.ok)
 go_wp2_with fail;refine QL.mono ?_;rintro e w2 ⟨r,rfl,lv,q2⟩
 have LV:=uU (show SumIs x (dX x) r from by
  rcases lv with⟨_,pp,h1,h2⟩ | ⟨h1,_⟩
  ·exact⟨pp,h1,by rw[h2]⟩
  ·exact absurd S.ok h1)
 have G2:=uU (G1.ext q2);have x2:=X1.trans q2;clear lv q2;go_wp2_with fail;refine(cK r _).mono ?_;rintro e w3 ⟨rfl,x3⟩;have G3:=uU (G2.ext x3);have X3:=uU (x2.trans x3);clear x3 t0 t1 t2 t3 t4 t5 t6 t7;obtain⟨u0,u1,u2,u3,u4,u5,u6,u7⟩:=G3.boxes O1;have hw3:w.heap.size+1<w3.heap.size:=uL u5;go_wp2_with fail;refine bodyPost_ret (v:=eY 0 r) (by simp [results,Tryz.results234,go_sem,u5,u6]) rfl ?_;exact⟨_,0,r,rfl,⟨rfl,rfl,LV⟩,GOk.done O1 G3 0 r,uW X3 V0 0 r⟩
theorem l5do_20[p:Inhabited uN](B g:Nat)(x:Hp)(a b c:Nat)(n:Int)(w:World)(h:GOk B w g x)(s:Snd x)(ok:dU 20 a b c n=true)(v:World)(hx:Ext v w):
  Calls Tryz.prog 234 #[.pointer (some ⟨g,0,none⟩),qZ 20 a b c n] w λe w'=>dC B g x a b c n 20 v e w':=by
 obtain⟨p1,o1,g1⟩:=GOk.enter h (w0:=doW w 20 a b c n) (((Ext.refl w).alloc _).alloc _);have HG:=uU g1;have S:=uU s;have O1:=uU o1;have QA:=uU (λW=>hE 20 a b c n W);rw[ok] at QA;have V0:=uU (show v.heap.size<=w.heap.size+1 by have:=hx.size;omega);have XD:=uU (show Ext v (doW w 20 a b c n) from(hx.alloc _).alloc _);have BX:=uU (eQ.new w 20 a b c n);clear h s o1 g1;go_enter Tryz.func234,Tryz.ntmps234;go_wp2_with fail;refine(QA _).mono ?_;rintro e w1 ⟨rfl,x1⟩;have X1:=uU (XD.trans x1);have BX1:=uU (BX.ext x1);obtain⟨t0,t1,t2,t3,t4,t5,t6,t7⟩:=uH BX1;have hw1:w.heap.size+1<w1.heap.size:=uL t5;have hw0:w.heap.size<w1.heap.size:=uL t0;have G1:=uU (HG.ext x1);clear x1 QA BX1 BX XD HG
 obtain⟨ag,ar,kr,ac,kc,kg,HT⟩:∃ag ar kr ac kc kg,Hid (HAt w1 g x ar kr ac kc ag kg):=by
  obtain⟨ar,kr,ac,kc,vg,br,bc,pb,pa,pk,role,h⟩:=G1;obtain⟨ag,kg,hat⟩:=h.hat S;exact⟨ag,ar,kr,ac,kc,kg,hat⟩
 go_wp2_with fail;refine(b0r x g w1 HT S.r2 S.r4 S.ok.n8).mono ?_;rintro e w2 ⟨vv,L,rfl,sn,hL,q2⟩;have SN:=uU sn;have H2:=uU (HT.ext q2);have G2:=uU (G1.ext q2);have x2:=X1.trans q2;clear sn q2;go_wp2_with fail;refine(b3z x g w1.heap.size (λi=>decide ((i:Int)∈L)) w2 H2 SN.s S.ok.n8 S.ok.p200).mono ?_;rintro e w2' ⟨rfl,rfl⟩;go_wp2_with fail;refine(cK (a2h x (λi=>decide ((i:Int)∈L)) x.cells.length:Nat) _).mono ?_;rintro e w3 ⟨rfl,x3⟩;have G3:=uU (G2.ext x3);have X3:=uU (x2.trans x3);clear x3 t0 t1 t2 t3 t4 t5 t6 t7;obtain⟨u0,u1,u2,u3,u4,u5,u6,u7⟩:=G3.boxes O1;have hw3:w.heap.size+1<w3.heap.size:=uL u5;go_wp2_with fail;refine bodyPost_ret (v:=eY 0 (a2h x (λi=>decide ((i:Int)∈L)) x.cells.length:Nat)) (by simp [results,Tryz.results234,go_sem,u5,u6]) rfl ?_;exact⟨_,0,(a2h x (λi=>decide ((i:Int)∈L)) x.cells.length:Nat),rfl,⟨rfl,rfl,λi=>decide ((i:Int)∈L),λi=>by rw[decide_eq_true_iff];exact hL i,rfl⟩,GOk.done O1 G3 0 (a2h x (λi=>decide ((i:Int)∈L)) x.cells.length:Nat),uW X3 V0 0 (a2h x (λi=>decide ((i:Int)∈L)) x.cells.length:Nat)⟩
theorem b9u(x:Hp)(b:Nat)(w:World){ar:Option Addr}{kr:Nat}{ac:Option Addr}{ag:Option Addr}{kg:Nat}(h:HAt w b x ar kr ac kc ag kg)(hn8:x.cells.length<=8000):
  Calls Tryz.prog 92 #[.pointer (some ⟨b,0,none⟩)] w λe w'=>∃r:Int,Hid (e=.returned (.int .i64 r))/\Hid (tC x x.cells.length r)/\Ext w w':=by
 have HH:=uU h;have c4:=h.c4;clear h;go_enter Tryz.func92,Tryz.ntmps92;go_wp2_with fail;go_loopw [3,11] (λa i wr=>∃(k:Nat) (r:Int),k<=x.cells.length/\i=.int .i64 k/\a=.int .i64 r/\Hid (tC x k r)/\Ext w wr) (λ_ i _=>x.cells.length-(intOf i).toNat)
 case atStart=>exact⟨0,-1,Nat.zero_le _,rfl,rfl,.inl ⟨rfl,λi hi=>by omega⟩,Ext.refl w⟩
 case round=>
  clear c4;obtain⟨k,r,hk,rfl,rfl,hd,hbl⟩:=hrel;by_cases hlt:k<x.cells.length
  ·have hh:=HH.ext hbl;have c4:=hh.c4;obtain⟨bc,oc,ap,kp,rfl,C⟩:=hh.cell k hlt;have HC:=uU C;have p0:=C.p0;have p1:=C.p1;have p2:=C.p2;have p3:=C.p3;have p4:=C.p4;have p5:=C.p5;have p6:=C.p6;have p7:=C.p7;have hbc:bc<wr.heap.size:=uL p0;have hbb:b<wr.heap.size:=uL c4;have hk0:(0:Int)<=(k:Int):=by omega
   have hk1:(k:Int)<(x.cells.length:Int):=by omega
   clear C;cases t:((x.c k).last == 2)
   ·have D:=uU (show tC x (k+1) r from hd.no (by simpa using t));go_wp2_with fail;go_quiet (fail);go_wp2_with fail;go_roundw
    case rel=>exact⟨k+1,r,by omega,by go_num,rfl,D,(hbl.alloc _).drewN _⟩
    case measure=>simp [intOf];omega
   ·have T:=uU (show(x.c k).last=2 by simpa using t);rcases hd.form with rfl | ⟨i,rfl,hi⟩
    ·have D:=uU (hd.first T);go_wp2_with fail;go_quiet (fail);go_wp2_with fail;go_roundw
     case rel=>exact⟨k+1,k,by omega,by go_num,rfl,D,(hbl.alloc _).drewN _⟩
     case measure=>simp [intOf];omega
    ·obtain⟨bc',oc',ap',kp',e1,C'⟩:=hh.cell i (by omega);cases e1;have q4:=C'.p4;have hi0:¬(i:Int)<0:=by omega
     have hi1:(i:Int)<(x.cells.length:Int):=by omega
     have hi2:(0:Int)<=(i:Int):=by omega
     clear C';by_cases hl:(x.c k).born<(x.c i).born
     ·have D:=uU (hd.less T hl);go_wp2_with fail;go_quiet (fail);go_wp2_with fail;go_roundw
      case rel=>exact⟨k+1,k,by omega,by go_num,rfl,D,(hbl.alloc _).drewN _⟩
      case measure=>simp [intOf];omega
     ·have D:=uU (hd.more (by omega));go_wp2_with fail;go_quiet (fail);go_wp2_with fail;go_roundw
      case rel=>exact⟨k+1,i,by omega,by go_num,rfl,D,(hbl.alloc _).drewN _⟩
      case measure=>simp [intOf];omega
  ·have hk2:k=x.cells.length:=by omega
   have D:=uU (show tC x x.cells.length r by have:=uH hd;rw[hk2] at this;exact this);clear hk2 hd;go_wp2_with fail;go_ret;exact⟨r,rfl,D,hbl⟩
structure GCel[Inhabited uN](B:Nat)(w:World)(g:Nat)(x:Hp)(i bc kc:Nat)(ap:Option Addr)(kp:Nat):Prop where
 c4:w.cell? ⟨g,4,none⟩=some (.slice (some ⟨bc,0,none⟩) x.cells.length kc)
 s:S7 w bc (i*8) (x.c i)
 p7:w.cell? ⟨bc,i*8+7,none⟩=some (.slice ap (x.c i).prs.length kp)
 f:∀j,w.frozen? ⟨bc,j,none⟩=false
 lo:B<=bc/\bc<w.heap.size
 set2:∀(W:World) (u:Int),Ext w W->GOk B (W.setCell ⟨bc,i*8+2,none⟩ (iv u)) g (dV x i (c1f (x.c i) u))
 set3:∀(W:World) (u:Int),Ext w W->GOk B (W.setCell ⟨bc,i*8+3,none⟩ (iv u)) g (dV x i (a2f (x.c i) u))
theorem GOk.cel[Inhabited uN](h:GOk B w g x)(i:Nat)(hi:i<x.cells.length):∃bc kc ap kp,GCel B w g x i bc kc ap kp:=by
 obtain⟨ar,kr,ac,kc,vg,br,bc,pb,pa,pk,role,h⟩:=h;have hn:0<x.cells.length:=by omega
 refine⟨bc,kc,pa i,pk i,?_,h.rw.s i hi,h.rw.p7 i hi,(h.rw.nc hn).1.2,⟨(h.rw.nc hn).2,(h.rw.nc hn).1.1⟩,λW u e=>?_,λW u e=>?_⟩
 ·have:=h.bx.2.2.2.2.1;rw[h.hc hn] at this;exact this
 ·have g1:=h.ext e;obtain⟨a0,a1,a2,a3,a4,a5,a6⟩:=g1.rw.s i hi;refine⟨ar,kr,ac,kc,vg,br,bc,pb,pa,pk,role,g1.setc hi rfl (uX.setCell (S:=λq=>q=bc) (uX.refl _ W) (p:=⟨bc,i*8+2,none⟩) rfl _) ⟨?_,?_,World.cell?_setCell_same _ _ _ a2,?_,?_,?_,?_⟩ (λj hj=>uC _ (.inr (by omega))) ((g1.rw.nc hn).1.set _ _)⟩
  ·rw[uC _ (.inr (by omega))];exact a0
  ·rw[uC _ (.inr (by omega))];exact a1
  ·rw[uC _ (.inr (by omega))];exact a3
  ·rw[uC _ (.inr (by omega))];exact a4
  ·rw[uC _ (.inr (by omega))];exact a5
  ·rw[uC _ (.inr (by omega))];exact a6
 ·have g1:=h.ext e;obtain⟨a0,a1,a2,a3,a4,a5,a6⟩:=g1.rw.s i hi;refine⟨ar,kr,ac,kc,vg,br,bc,pb,pa,pk,role,g1.setc hi rfl (uX.setCell (S:=λq=>q=bc) (uX.refl _ W) (p:=⟨bc,i*8+3,none⟩) rfl _) ⟨?_,?_,?_,World.cell?_setCell_same _ _ _ a3,?_,?_,?_⟩ (λj hj=>uC _ (.inr (by omega))) ((g1.rw.nc hn).1.set _ _)⟩
  ·rw[uC _ (.inr (by omega))];exact a0
  ·rw[uC _ (.inr (by omega))];exact a1
  ·rw[uC _ (.inr (by omega))];exact a2
  ·rw[uC _ (.inr (by omega))];exact a4
  ·rw[uC _ (.inr (by omega))];exact a5
  ·rw[uC _ (.inr (by omega))];exact a6
abbrev b0z(w:World):World:=w.alloc (.cells #[iv 0,iv 0] 41)
structure ABox(w W:World):Prop where
 r0:W.cell? ⟨w.heap.size,0,none⟩=some (iv 0)
 r1:W.cell? ⟨w.heap.size,1,none⟩=some (iv 0)
 rf:∀j,W.frozen? ⟨w.heap.size,j,none⟩=false
theorem ABox.new(w:World):ABox w (b0z w):=⟨by simp [go_sem],by simp [go_sem],λj=>by simp [go_sem]⟩
theorem GOk.abox{p p1:Inhabited uN}(o:Own p w.heap.size (b0z w).heap.size (b0z w) p1)(h:@GOk p1 B W g y):ABox w W:=by
 have e:=GOk.own o h w.heap.size (Nat.le_refl _) (by simp [b0z]);have n:=ABox.new w;exact⟨(World.cell?_of_block (a:=⟨w.heap.size,0,none⟩) e).trans n.r0,(World.cell?_of_block (a:=⟨w.heap.size,1,none⟩) e).trans n.r1,λj=>(World.frozen?_of_block (a:=⟨w.heap.size,j,none⟩) e).trans (n.rf j)⟩
theorem GOk.done1{p p1:Inhabited uN}(o:Own p w.heap.size (b0z w).heap.size (b0z w) p1)(h:@GOk p1 B W g y)(cd nm:Int):@GOk p B (putA W w.heap.size cd nm) g y:=
 GOk.leave o h (uX.setCell (uX.setCell (uX.refl _ W) (p:=⟨w.heap.size,0,none⟩) ⟨Nat.le_refl _,by simp [b0z]⟩ _) (p:=⟨w.heap.size,1,none⟩) ⟨Nat.le_refl _,by simp [b0z]⟩ _)
theorem c2x[p:Inhabited uN](B g:Nat)(x:Hp)(a:Nat)(w:World)(h:GOk B w g x)(s:Snd x)(ha:a<16)(v:World)(hv:v.heap.size<=B)(hx:Ext v w):
  Calls Tryz.prog 254 #[.pointer (some ⟨g,0,none⟩),.int .i64 a] w λe w'=>∃(y:Hp) (nm:Int),e=.returned (eY 0 nm)/\Hid (c5v x a y nm)/\Hid (GOk B w' g y)/\Ext v w':=by
 obtain⟨p1,o1,g1⟩:=GOk.enter h (w0:=b0z w) ((Ext.refl w).alloc _);have O1:=uU o1;have G0:=uU g1;have r16:=uU s.r1.regs
 have QN:=uU (show Calls Tryz.prog 92 #[.pointer (some ⟨g,0,none⟩)] (b0z w) λe w'=>∃r:Int,e=.returned (.int .i64 r)/\Hid (tC x x.cells.length r)/\Ext (b0z w) w' from by
  obtain⟨ar,kr,ac,kc,vg,br,bc,pb,pa,pk,role,h⟩:=g1;obtain⟨ag,kg,hat⟩:=h.hat s;refine(b9u x g _ hat s.ok.n8).mono ?_;rintro e w' h2;exact h2)
 have V0:=uU (show v.heap.size<=w.heap.size from hx.size);have XD:=uU (show Ext v (b0z w) from hx.alloc _);have i0:(0:Int)<=(a:Int):=by omega
 have i1:(a:Int)<16:=by omega
 clear h s o1 g1;go_enter Tryz.func254,Tryz.ntmps254;go_wp2_with fail;refine QN.mono ?_;rintro e w1 ⟨r,rfl,hd,x1⟩;have X1:=uU (XD.trans x1);have G1:=uU (G0.ext x1);clear x1 XD G0 QN;by_cases h0:r<0
 ·have D:=uU (show tC x x.cells.length (-1) by
   rcases uH hd with⟨e,h⟩ | ⟨i,e,_⟩
   ·exact .inl ⟨rfl,h⟩
   ·omega)
  clear hd;obtain⟨br,kr,hr⟩:=G1.regs r16;have R1:=uU hr;have c3:=hr.c3;obtain⟨r0,r1,r2⟩:=hr.r a ha;have f:=hr.f;have hg1:g<w1.heap.size:=uL c3;have hb1:br<w1.heap.size:=uL r0;have hbB:=hr.lo.1;have FN:=uU (show GOk B (dJ w1 br (a*3) Wd0) g (regTo x a Wd0)/\Ext v (dJ w1 br (a*3) Wd0) from⟨hr.set w1 a Wd0 (Ext.refl _) ha,(a0e w1 br (a*3) Wd0).ext X1 (λq hq e=>by omega)⟩);obtain⟨W2,hW2⟩:∃W,W=dJ w1 br (a*3) Wd0:=⟨_,rfl⟩;rw[<-hW2] at FN;unfold dJ Wd0 at hW2;clear hr;go_wp2_with fail;rw[<-hW2];refine(cK 0 _).mono ?_;rintro e w3 ⟨rfl,x3⟩;have G3:=uU (FN.1.ext x3);have X3:=uU (FN.2.trans x3);obtain⟨u5,u6,u7⟩:=GOk.abox O1 G3;have hw3:w.heap.size<w3.heap.size:=uL u5;clear x3 FN hW2 c3 r0 r1 r2 f;go_wp2_with fail;refine bodyPost_ret (v:=eY 0 0) (by simp [results,Tryz.results254,go_sem,u5,u6]) rfl ?_;exact⟨_,0,rfl,.inl ⟨D,rfl,rfl⟩,GOk.done1 O1 G3 0 0,uW X3 V0 0 0⟩
 ·obtain⟨i,hi,hil,D⟩:∃i:Nat,r=(i:Int)/\i<x.cells.length/\Hid (tC x x.cells.length (i:Int)):=by
   rcases hd.form with e | ⟨i,e,h⟩
   ·omega
   ·exact⟨i,e,h,by have:=uH hd;rw[e] at this;exact this⟩
  subst hi;clear hd;obtain⟨bc,kc,ap,kp,hc⟩:=G1.cel i hil;have c4:=hc.c4;obtain⟨q0,q1,q2,q3,q4,q5,q6⟩:=hc.s;have fc:=hc.f;have hg0:g<w1.heap.size:=uL c4;have hb0:bc<w1.heap.size:=uL q3;have k0:(0:Int)<=(i:Int):=by omega
  have k1:(i:Int)<(x.cells.length:Int):=by omega
  have G2:=uU (hc.set3 w1 3 (Ext.refl _));have X2:=uU (X1.setCell (p:=⟨bc,i*8+3,none⟩) (Nat.le_trans hv hc.lo.1) (iv 3));obtain⟨W1,hW1⟩:∃W,W=w1.setCell ⟨bc,i*8+3,none⟩ (iv 3):=⟨_,rfl⟩;rw[<-hW1] at G2 X2;obtain⟨br,kr,hr⟩:=G2.regs (show(dV x i (a2f (x.c i) 3)).regs.length=16 from uH r16);have c3:=hr.c3;obtain⟨r0,r1,r2⟩:=hr.r a ha;have f:=hr.f;have hg1:g<W1.heap.size:=uL c3;have hb1:br<W1.heap.size:=uL r0;have hbB:=hr.lo.1;have FN:=uU (show GOk B (dJ W1 br (a*3) ⟨2,0,i⟩) g (regTo (dV x i (a2f (x.c i) 3)) a ⟨2,0,i⟩)/\Ext v (dJ W1 br (a*3) ⟨2,0,i⟩) from⟨hr.set W1 a ⟨2,0,i⟩ (Ext.refl _) ha,(a0e W1 br (a*3) ⟨2,0,i⟩).ext X2 (λq hq e=>by omega)⟩);obtain⟨W2,hW2⟩:∃W,W=dJ W1 br (a*3) ⟨2,0,i⟩:=⟨_,rfl⟩;rw[<-hW2] at FN;unfold dJ at hW2;clear hr hc
  go_upto_region 6 with(fail)
  rw[<-hW1];clear hW1 c4 q0 q1 q2 q3 q4 q5 q6 fc hg0 hb0;go_wp2_with fail;rw[<-hW2];refine(cK 1 _).mono ?_;rintro e w3 ⟨rfl,x3⟩;have G3:=uU (FN.1.ext x3);have X3:=uU (FN.2.trans x3);obtain⟨u5,u6,u7⟩:=GOk.abox O1 G3;have hw3:w.heap.size<w3.heap.size:=uL u5;clear x3 FN hW2 c3 r0 r1 r2 f;go_wp2_with fail;refine bodyPost_ret (v:=eY 0 1) (by simp [results,Tryz.results254,go_sem,u5,u6]) rfl ?_;exact⟨_,1,rfl,.inr ⟨i,D,rfl,rfl⟩,GOk.done1 O1 G3 0 1,uW X3 V0 0 1⟩
theorem b2t(x:Hp)(i:Nat)(hi:i<x.cells.length)(n:Nat)(hn:(x.c i).prs.length<=n)(hs:dL x=(i:Int)->x.sub<=(x.c i).prs.length):zH x i n=x:=by
 have e1:a1b (x.c i) n=x.c i:=by unfold a1b;rw[List.take_of_length_le hn]
 have e2:x.cells.set i (x.c i)=x.cells:=by rw[<-Hp.c_eq x i hi];exact List.set_getElem_self _
 unfold zH;rw[e1,e2,if_neg (λh=>by have:=hs h.1;omega),show(x.c i).prs.length-n=0 by omega];simp
theorem b7o(x:Hp)(i n:Nat)(hi:i<x.cells.length)(q:Nat):(zH x i n).c q=if q=i then a1b (x.c i) n else x.c q:=Hp.c_set x i (a1b (x.c i) n) hi q
theorem b7p(x:Hp)(i n:Nat):dL (zH x i n)=dL x:=by unfold dL zH;simp
theorem b9v(x:Hp)(i m:Nat)(hi:i<x.cells.length)(hm:m<(x.c i).prs.length):b0x (zH x i (m+1)) i m=zH x i m:=by
 have hc:=b7o x i (m+1) hi i;rw[if_pos rfl] at hc
 have e1:(a1b (x.c i) (m+1)).prs.eraseIdx m=(x.c i).prs.take m:=by
  unfold a1b;show((x.c i).prs.take (m+1)).eraseIdx m=_;rw[List.take_succ_eq_append_getElem hm,List.eraseIdx_append_of_length_le (by simp;omega)];have:m-((x.c i).prs.take m).length=0:=by simp;omega
  rw[this];simp
 have e2:({ (zH x i (m+1)).c i with prs:=((zH x i (m+1)).c i).prs.eraseIdx m }:Cl)=a1b (x.c i) m:=by
  rw[hc,e1];rfl
 unfold b0x;rw[e2,b7p];unfold zH;simp only [List.set_set];by_cases sc:dL x=(i:Int)
 ·by_cases h1:(m:Int)<x.sub
  ·by_cases h2:((m+1:Nat):Int)<x.sub
   ·simp only [sc,h2,h1,if_true,and_true];rw[if_pos (by omega)];simp only [Hp.mk.injEq,true_and,and_true];refine⟨by omega,by omega⟩
   ·have:x.sub=(m:Int)+1:=by omega
    simp only [sc,h2,h1,true_and,if_true,if_false,and_true];simp only [Hp.mk.injEq,true_and,and_true];refine⟨by omega,by omega⟩
  ·have h2:¬((m+1:Nat):Int)<x.sub:=by omega
   simp only [sc,h2,h1,true_and,if_false,and_true];simp only [Hp.mk.injEq,true_and,and_true];omega
 ·simp only [sc,false_and,and_false,if_false];simp only [Hp.mk.injEq,true_and,and_true];omega
theorem c2y[Inhabited uN](B g:Nat)(x:Hp)(i n:Nat)(w:World)(h:GOk B w g x)(s:Snd x)(hi:i<x.cells.length)(h1:(x.c i).st=1)(a:World)(ha:a.heap.size<=B)(hx:Ext a w):
  Calls Tryz.prog 263 #[.pointer (some ⟨g,0,none⟩),.int .i64 i,.int .i64 n] w λe w'=>e=.returned (.tuple #[])/\Hid (GOk B w' g (zH x i n))/\Ext a w':=by
 obtain⟨ar,kr,ac,kc,vg,br,bc,pb,pa,pk,role,h⟩:=h;have GK0:=uU (show GK B w g x ar kr ac kc vg br bc from⟨pb,pa,pk,role,h⟩);have l200:=s.ok.p200 i hi;have n8:=s.ok.n8;have SUB:=uU (show dL x=(i:Int)->x.sub<=(x.c i).prs.length from λe=>(b7n s hi h1 e).2);have US:=uU (show 0<=x.used/\x.used<=4000 by have h3:=s.r3;have h1:=s.r1.room;unfold R3 at h3;omega);have SB:=uU s.r1.sub;have r0:0<x.regs.length:=by rw[s.r1.regs];omega
 have TOP:=uU (b2t x i hi (x.c i).prs.length (Nat.le_refl _) SUB);have HI:=uU hi;have i0:(0:Int)<=(i:Int):=by omega
 have i1:(i:Int)<(x.cells.length:Int):=by omega
 have R0:=uU r0;clear h h1 s r0;go_enter Tryz.func263,Tryz.ntmps263;go_wp2_with fail
 go_loopg [] ((x.c i).prs.length) (λgk wr=>∃m:Nat,m=gk/\m<=(x.c i).prs.length/\Hid ((x.c i).prs.length<=n->m=(x.c i).prs.length)/\Hid (n<=(x.c i).prs.length->n<=m)/\Hid (GK B wr g (zH x i m) ar kr ac kc vg br bc)/\Ext a wr)
 case atStart=>exact⟨_,rfl,Nat.le_refl _,λ_=>rfl,id,by rw[uH TOP];exact uH GK0,hx⟩
 case round=>
  clear GK0 hx;obtain⟨m,rfl,hm,hA,hB,hG,hxr⟩:=hrel;obtain⟨z,hz⟩:∃z,z=zH x i m:=⟨_,rfl⟩;have HZ:=uU hz;rw[<-hz] at hG;have ZL:=uU (show z.cells.length=x.cells.length by rw[hz];simp [zH]);have ZC:=uU (show z.c i=a1b (x.c i) m by rw[hz,b7o x i m (uH HI) i,if_pos rfl]);have ZP:=uU (show(z.c i).prs.length=m by rw[uH ZC];simp [a1b];omega)
  have ZN:=uU (show -3000000<=z.used/\z.used<=1000000/\-3000000<=z.sub/\z.sub<=1000000 by
   have h1:=uH US;have h2:=uH SB;rw[hz];unfold zH;refine⟨?_,?_,?_,?_⟩
   ·show -3000000<=x.used-(((x.c i).prs.length-m:Nat):Int);omega
   ·show x.used-(((x.c i).prs.length-m:Nat):Int)<=1000000;omega
   ·show -3000000<=(if dL x=(i:Int)/\(m:Int)<x.sub then (m:Int) else x.sub);split <;> omega
   ·show(if dL x=(i:Int)/\(m:Int)<x.sub then (m:Int) else x.sub)<=1000000;split <;> omega)
  have ZR:=uU (show 0<z.regs.length by rw[hz];exact R0);clear hz;obtain⟨pb,pa,pk,role,h⟩:=uH hG;have hn:0<z.cells.length:=by rw[uH ZL];omega
  have hiz:i<z.cells.length:=by rw[uH ZL];omega
  have c4:=h.bx.2.2.2.2.1;rw[h.hc hn,uH ZL] at c4;have p7:=h.rw.p7 i hiz;rw[uH ZP] at p7;have hg1:g<wr.heap.size:=uL c4;have hb1:bc<wr.heap.size:=uL p7;clear h;by_cases hc:n<m
  ·have q1:(m:Int) > (n:Int):=by omega
   have wm:wrap64 ((m:Int)-1)=((m-1:Nat):Int):=by rw[a2b _ (by omega) (by omega)];omega
   have CUT:=uU (show b0x z i (m-1)=zH x i (m-1) by
    rw[uH HZ];have:=b9v x i (m-1) HI (by omega);rw[show m-1+1=m by omega] at this;exact this)
   have QC:=uU (b4a hG i (m-1) hiz (by rw[uH ZP];omega) ZR (by rw[uH ZP];omega) ⟨ZN.1,ZN.2.1⟩ ⟨ZN.2.2.1,ZN.2.2.2⟩ (by rw[uH ZL];exact n8) a ha hxr);go_wp2_with fail;rw[show((m:Int)-1)=((m-1:Nat):Int) by omega];refine QC.mono ?_;rintro e w2 ⟨rfl,h2,_,x2⟩;rw[uH CUT] at h2;have G2:=uU h2;have B2:=uU hB;clear h2 QC CUT c4 p7 hG;go_wp2_with fail
   go_roundg (m-1)
   case measure=>omega
   case rel=>exact⟨m-1,rfl,by omega,λh=>by omega,λh=>by have:=uH B2 h;omega,G2,x2⟩
  ·have q1:¬(m:Int) > (n:Int):=by omega
   have E:=uU (show zH x i n=z by
    rw[uH HZ];rcases Nat.lt_or_ge (x.c i).prs.length n with l | l
    ·have:=uH hA (by omega);rw[b2t x i (uH HI) n (by omega) (uH SUB),this,uH TOP]
    ·have:=uH hB l;have:n=m:=by omega
     rw[this])
   go_wp2_with fail
   go_end0
   exact⟨rfl,by rw[uH E];exact hG.ok,hxr⟩
theorem Snd.reg(s:Snd x)(f:Nat)(hf:f<16):cN x (x.r f) False:=by
 have h:=s.r4.1 f (by rw[s.r1.regs];exact hf);rw[Hp.r_eq] at h;exact h
theorem Snd.at(s:Snd x)(f:Nat)(hf:f<16)(h2:(x.r f).k=2):(x.r f).n=0/\(x.r f).a=(x.at f:Int)/\x.at f<x.cells.length/\(x.c (x.at f)).st=1/\¬cU x (x.at f):=by
 have h:=s.reg f hf;have h1:=h.1;unfold uK at h1;have ha:(x.r f).a=((x.r f).a.toNat:Int):=by omega
 rcases h.2 h2 with o | o
 ·exact o.2.elim
 ·exact⟨by omega,ha,by unfold Hp.at;omega,o.1,o.2⟩
structure GPr[Inhabited uN](B:Nat)(w:World)(g:Nat)(x:Hp)(i k bc kc bp kp:Nat):Prop where
 c4:w.cell? ⟨g,4,none⟩=some (.slice (some ⟨bc,0,none⟩) x.cells.length kc)
 p7:w.cell? ⟨bc,i*8+7,none⟩=some (.slice (some ⟨bp,0,none⟩) (x.c i).prs.length kp)
 pr:tL w bp (k*6) ((x.c i).p k)
 f:∀j,w.frozen? ⟨bp,j,none⟩=false
 lo:B<=bp/\bp<w.heap.size
 set:∀(W:World) (q:Pr),Ext w W->GOk B (tU W bp (k*6) q) g (dV x i { x.c i with prs:=(x.c i).prs.set k q })
theorem GOk.prw[Inhabited uN](h:GOk B w g x)(i:Nat)(hi:i<x.cells.length)(k:Nat)(hk:k<(x.c i).prs.length):∃bc kc bp kp,GPr B w g x i k bc kc bp kp:=by
 obtain⟨ar,kr,ac,kc,vg,br,bc,pb,pa,pk,role,h⟩:=h;have hn:0<x.cells.length:=by omega
 have hl:0<(x.c i).prs.length:=by omega
 obtain⟨e1,e2,_,e4⟩:=h.rw.pl i hi (h.rw.pw hi hl);refine⟨bc,kc,pb i,pk i,?_,?_,h.rw.p i hi k hk,e2.2,⟨e4,e2.1⟩,λW q e=>?_⟩
 ·have:=h.bx.2.2.2.2.1;rw[h.hc hn] at this;exact this
 ·have:=h.rw.p7 i hi;rw[e1] at this;exact this
 ·have g1:=h.ext e;exact⟨ar,kr,ac,kc,vg,br,bc,pb,pa,pk,role,g1.setp i hi k hk q (a1i _ _ _ _) (b2a (g1.rw.pl i hi (g1.rw.pw hi hl)).2.1.n1 _ _) (b1z _ _ _ _ _ (g1.rw.p i hi k hk)) (λj hj=>a5y _ _ _ _ j hj)⟩
theorem GPr.ext[Inhabited uN]{w':World}{i k bc bp kp:Nat}(h:GPr B w g x i k bc kc bp kp)(e:Ext w w'):GPr B w' g x i k bc kc bp kp:=
 ⟨e.keep h.c4,e.keep h.p7,h.pr.ext e,λj=>((cZ e).2 bp j h.lo.2).trans (h.f j),⟨h.lo.1,Nat.lt_of_lt_of_le h.lo.2 e.size⟩,λW q e2=>h.set W q (e.trans e2)⟩
end Go.Proofs.YtddkhnclmeikfaaGreat
