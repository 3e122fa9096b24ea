import Derived.Test.YtddkhnclmeikfaaGreatSpecI
set_option maxRecDepth 100000
set_option maxHeartbeats 4000000
namespace Go.Proofs.YtddkhnclmeikfaaGreat
open Go.RowKit
attribute [local go_sem ↓] Go.wp_at_zero Go.wp_at_succ
theorem c4g(x:Hp)(b:Nat)(w:World){ar:Option Addr}{kr:Nat}{ac:Option Addr}{kc:Nat}{ag:Option Addr}{kg:Nat}(h:HAt w b x ar kr ac kc ag kg)(fo:∀i,i<x.A.length->∀k,k<(x.c i).F.length->uE ((x.c i).p k).key x.A.length/\uE ((x.c i).p k).val x.A.length)(r6:R6 x)(r1:R1 x)(q1:(x.E == 1)=false)(q2:(x.E == 2)=true):
  Calls Tryz.prog 132 #[.pointer (some ⟨b,0,none⟩)] w λe w'=>∃r:Bool,e=.returned (.bool r)/\(r=true↔R7 x)/\Ext w w':=by
 have hph:x.E=2:=by simpa using q2
 have MK:=uU (show uD x from Or.inr hph);have HPH:=uU hph;clear hph;have q1n:(x.E != 1)=true:=by simpa using q1
 have q2n:(x.E != 2)=false:=by simpa using q2
 have c4:=h.c4;have c5:=h.c5;have lc:=h.lc;have lg:=h.lg;have hs0:=r1.sub.1;have FOO:=uU fo;have HR6:=uU r6;clear fo r6 r1;go_enter Tryz.func132,Tryz.ntmps132;go_wp2_with fail;go_loopw [25] (λi wr=>∃k:Nat,k<=x.A.length/\i=.int .i64 k/\(∀j,j<k->¬(cU (x.c j)/\(x.c j).J=0/\(x.E=2\/(j:Int)<x.I))/\∀l,l<cC x j->¬cZ x ((x.c j).p l).key/\¬cZ x ((x.c j).p l).val)/\Ext w wr) (λi _=>x.A.length-(intOf i).toNat)
 case atStart=>exact⟨0,Nat.zero_le _,rfl,λj h=>by omega,Ext.refl _⟩
 case round=>
  obtain⟨k,hk,rfl,hall,hbl⟩:=hrel;have HA:=uU hall;clear hall;by_cases hlt:k<x.A.length
  ·have hh:=h.ext hbl;obtain⟨b',o,ap,kp,rfl,p0,p1,p2,p3,p4,p5,p6,p7,lp,P⟩:=hh.cell k hlt;have HP:=uU P;have FO:=uU (FOO k hlt);clear P;have e5:=hh.c5;have e6:=hh.c6;have e7:=hh.c7;have e8:=hh.c8;have hb':b'<wr.heap.size:=uL p0;have hb:b<wr.heap.size:=uL e8;have hk0:(0:Int)<=(k:Int):=by omega
   have hk1:(k:Int)<(x.A.length:Int):=by omega
   have hbl1:=hbl.alloc (.cells #[.int .i64 (x.c k).st,.int .i64 (x.c k).kind,.int .i64 (x.c k).T,.int .i64 (x.c k).U,.int .i64 (x.c k).born,.int .i64 (x.c k).J,.int .i64 (x.c k).to,.slice ap (x.c k).F.length kp] 62);have hz:=(Ext.refl wr).alloc (.cells #[.int .i64 (x.c k).st,.int .i64 (x.c k).kind,.int .i64 (x.c k).T,.int .i64 (x.c k).U,.int .i64 (x.c k).born,.int .i64 (x.c k).J,.int .i64 (x.c k).to,.slice ap (x.c k).F.length kp] 62);cases d0:((x.c k).J == 0)
   ·have D0:=uU (show(x.c k).J≠0 by simpa using d0)
    have ST:=uU (show(∀l,l<cC x k->¬cZ x ((x.c k).p l).key/\¬cZ x ((x.c k).p l).val)->Hid (∀j,j<k+1->¬(cU (x.c j)/\(x.c j).J=0/\(x.E=2\/(j:Int)<x.I))/\∀l,l<cC x j->¬cZ x ((x.c j).p l).key/\¬cZ x ((x.c j).p l).val) from λhn j hj=>by
     by_cases e:j=k
     ·subst e;exact⟨λhb=>uH D0 hb.2.1,hn⟩
     ·exact HA j (by omega))
    rcases (show((x.c k).U == 1)=true\/(((x.c k).U == 1)=false/\((x.c k).U == 2)=true)\/(((x.c k).U == 1)=false/\((x.c k).U == 2)=false) by cases ((x.c k).U == 1) <;> cases ((x.c k).U == 2) <;> simp) with w1 | ⟨w1,w2⟩ | ⟨w1,w2⟩
    all_goals
     cases d2:((x.c k).J == 2)
     ·skip
      by_cases hg:0<x.D.length
      ·obtain⟨bg,og,rfl,pg⟩:=(h.ext hbl).G 0 hg;unfold yD at pg;simp only [Nat.zero_mul,Nat.add_zero] at pg;have hbg:bg<wr.heap.size:=uL pg;have hg4:(0:Int)<(x.D.length:Int):=by omega
       cases d3:(x.D[0] == (k:Int))
       ·have LK:=uU (show cC x k=0 by have e1:¬(x.c k).J=2:=(by simpa using d2);have e2:x.D.getD 0 0=x.D[0]:=(by simp [hg]);have e3:¬x.D[0]=(k:Int):=(by simpa using d3);unfold cC;rw[if_neg e1,if_neg (by rw[e2];exact λc=>e3 c.2.2)]);go_wp2_with fail;go_loopw [7] (λi wr2=>i=.int .i64 0/\wr2=wr.alloc (.cells #[.int .i64 (x.c k).st,.int .i64 (x.c k).kind,.int .i64 (x.c k).T,.int .i64 (x.c k).U,.int .i64 (x.c k).born,.int .i64 (x.c k).J,.int .i64 (x.c k).to,.slice ap (x.c k).F.length kp] 62)) (λ_ _=>0)
        case atStart=>exact⟨rfl,rfl⟩
        case round=>
         obtain⟨rfl,rfl⟩:=hrel;have S:=uH ST (λl hl=>by rw[uH LK] at hl;omega);go_wp2_with fail;go_roundw
         case rel=>exact⟨k+1,by omega,by go_num,S,hbl1⟩
         case measure=>simp [intOf];omega
       ·obtain⟨sN,hsN⟩:=Int.eq_ofNat_of_zero_le hs0;have e3:x.D[0]=(k:Int):=by simpa using d3
        have LK:=uU (show cC x k=sN by have e1:¬(x.c k).J=2:=(by simpa using d2);have e2:x.D.getD 0 0=x.D[0]:=(by simp [hg]);unfold cC;rw[if_neg e1,if_pos ⟨uH HPH,by omega,by rw[e2];exact e3⟩,hsN];simp)
        have sle:sN<=(x.c k).F.length:=by
         have e4:=(HR6.2.1 HPH).2.2 (by omega);have e5:x.g0=k:=by simp [Hp.g0,hg,e3]
         rw[e5,hsN] at e4;omega
        rw[hsN] at e7;rw[e3] at pg;clear e3 hs0 hsN;go_wp2_with fail;obtain⟨WO,hWO⟩:∃W:World,W=wr:=⟨_,rfl⟩;subst hWO;go_loopw [7] (λi wr2=>∃l:Nat,l<=sN/\i=.int .i64 l/\(∀j,j<l->¬cZ x ((x.c k).p j).key/\¬cZ x ((x.c k).p j).val)/\Ext w wr2/\Ext (WO.alloc (.cells #[.int .i64 (x.c k).st,.int .i64 (x.c k).kind,.int .i64 (x.c k).T,.int .i64 (x.c k).U,.int .i64 (x.c k).born,.int .i64 (x.c k).J,.int .i64 (x.c k).to,.slice ap (x.c k).F.length kp] 62)) wr2) (λi _=>sN-(intOf i).toNat)
        case atStart=>exact⟨0,Nat.zero_le _,rfl,λj h=>by omega,hbl1,Ext.refl _⟩
        case round=>
         obtain⟨l,hl,rfl,hall,hx2,hy2⟩:=hrel;have HB:=uU hall;clear hall;clear p0 p1 p2 p3 p4 p5 p6 p7 e5 e6 e7 e8;by_cases hl2:l<sN
         ·obtain⟨b2,o2,rfl,q0,q1,q2,q3,q4,q5⟩:=uH HP l (by omega);have g0:=(Ext.trans hz hy2).keep q0;have g1:=(Ext.trans hz hy2).keep q1;have g2:=(Ext.trans hz hy2).keep q2;have g3:=(Ext.trans hz hy2).keep q3;have g4:=(Ext.trans hz hy2).keep q4;have g5:=(Ext.trans hz hy2).keep q5;have f7:=hy2.keep (b:=WO.heap.size) (o:=7) (v:=.slice (some ⟨b2,o2,none⟩) (x.c k).F.length kp) (by simp [go_sem]);clear q0 q1 q2 q3 q4 q5;have hl0:(0:Int)<=(l:Int):=by omega
          have hl1:(l:Int)<((x.c k).F.length:Int):=by omega
          have K1:=uU (FO l (by omega));go_wp2_with fail;refine(a0z x b ((x.c k).p l).key _ (h.ext hx2) (λe=>a2c K1.1 e)).mono ?_;rintro e w3 ⟨rfl,hq3⟩;have u7:=hq3.keep f7;have u3:=hq3.keep g3;have u4:=hq3.keep g4;have u5:=hq3.keep g5;have x3:Ext w w3:=hx2.trans hq3;cases tk:a1y x ((x.c k).p l).key
          ·go_wp2_with fail;refine(a0z x b ((x.c k).p l).val _ (h.ext x3) (λe=>a2c K1.2 e)).mono ?_;rintro e w4 ⟨rfl,hq4⟩;cases tv:a1y x ((x.c k).p l).val
           ·have S:=uU (show ∀j,j<l+1->¬cZ x ((x.c k).p j).key/\¬cZ x ((x.c k).p j).val from λj hj=>by
             by_cases e:j=l
             ·subst e;exact⟨λhh=>by rw[<-a0c,tk] at hh;simp at hh,λhh=>by rw[<-a0c,tv] at hh;simp at hh⟩
             ·exact HB j (by omega))
            go_wp2_with fail;go_roundw
            case rel=>exact⟨l+1,by omega,by go_num,S,x3.trans hq4,Ext.trans (Ext.trans hy2 hq3) hq4⟩
            case measure=>simp [intOf];omega
           ·have NN:=uU (show ¬R7 x from λr=>((r MK k hlt).2 l (by rw[uH LK];omega)).2 (a0c.1 tv));go_wp2_with fail;go_ret
            first | (exact Or.inl ⟨rfl,NN,x3.trans hq4⟩) | (exact⟨false,rfl,⟨λf=>by simp at f,λr=>(NN r).elim⟩,x3.trans hq4⟩)
          ·have NN:=uU (show ¬R7 x from λr=>((r MK k hlt).2 l (by rw[uH LK];omega)).1 (a0c.1 tk));go_wp2_with fail;go_ret
           first | (exact Or.inl ⟨rfl,NN,x3⟩) | (exact⟨false,rfl,⟨λf=>by simp at f,λr=>(NN r).elim⟩,x3⟩)
         ·have S:=uH ST (λl' hl'=>uH HB l' (by rw[uH LK] at hl';omega));go_wp2_with fail;go_roundw
          case rel=>exact⟨k+1,by omega,by go_num,S,hx2⟩
          case measure=>simp [intOf];omega
      ·have LK:=uU (show cC x k=0 by have e1:¬(x.c k).J=2:=(by simpa using d2);unfold cC;rw[if_neg e1,if_neg (by omega)]);go_wp2_with fail;go_loopw [7] (λi wr2=>i=.int .i64 0/\wr2=wr.alloc (.cells #[.int .i64 (x.c k).st,.int .i64 (x.c k).kind,.int .i64 (x.c k).T,.int .i64 (x.c k).U,.int .i64 (x.c k).born,.int .i64 (x.c k).J,.int .i64 (x.c k).to,.slice ap (x.c k).F.length kp] 62)) (λ_ _=>0)
       case atStart=>exact⟨rfl,rfl⟩
       case round=>
        obtain⟨rfl,rfl⟩:=hrel;have S:=uH ST (λl hl=>by rw[uH LK] at hl;omega);go_wp2_with fail;go_roundw
        case rel=>exact⟨k+1,by omega,by go_num,S,hbl1⟩
        case measure=>simp [intOf];omega
     ·have LK:=uU (show cC x k=(x.c k).F.length by simp at d2;simp [cC,d2]);go_wp2_with fail;obtain⟨WO,hWO⟩:∃W:World,W=wr:=⟨_,rfl⟩;subst hWO;go_loopw [7] (λi wr2=>∃l:Nat,l<=(x.c k).F.length/\i=.int .i64 l/\(∀j,j<l->¬cZ x ((x.c k).p j).key/\¬cZ x ((x.c k).p j).val)/\Ext w wr2/\Ext (WO.alloc (.cells #[.int .i64 (x.c k).st,.int .i64 (x.c k).kind,.int .i64 (x.c k).T,.int .i64 (x.c k).U,.int .i64 (x.c k).born,.int .i64 (x.c k).J,.int .i64 (x.c k).to,.slice ap (x.c k).F.length kp] 62)) wr2) (λi _=>(x.c k).F.length-(intOf i).toNat)
      case atStart=>exact⟨0,Nat.zero_le _,rfl,λj h=>by omega,hbl1,Ext.refl _⟩
      case round=>
       obtain⟨l,hl,rfl,hall,hx2,hy2⟩:=hrel;have HB:=uU hall;clear hall;clear p0 p1 p2 p3 p4 p5 p6 p7 e5 e6 e7 e8;by_cases hl2:l<(x.c k).F.length
       ·obtain⟨b2,o2,rfl,q0,q1,q2,q3,q4,q5⟩:=uH HP l (by omega);have g0:=(Ext.trans hz hy2).keep q0;have g1:=(Ext.trans hz hy2).keep q1;have g2:=(Ext.trans hz hy2).keep q2;have g3:=(Ext.trans hz hy2).keep q3;have g4:=(Ext.trans hz hy2).keep q4;have g5:=(Ext.trans hz hy2).keep q5;have f7:=hy2.keep (b:=WO.heap.size) (o:=7) (v:=.slice (some ⟨b2,o2,none⟩) (x.c k).F.length kp) (by simp [go_sem]);clear q0 q1 q2 q3 q4 q5;have hl0:(0:Int)<=(l:Int):=by omega
        have hl1:(l:Int)<((x.c k).F.length:Int):=by omega
        have K1:=uU (FO l (by omega));go_wp2_with fail;refine(a0z x b ((x.c k).p l).key _ (h.ext hx2) (λe=>a2c K1.1 e)).mono ?_;rintro e w3 ⟨rfl,hq3⟩;have u7:=hq3.keep f7;have u3:=hq3.keep g3;have u4:=hq3.keep g4;have u5:=hq3.keep g5;have x3:Ext w w3:=hx2.trans hq3;cases tk:a1y x ((x.c k).p l).key
        ·go_wp2_with fail;refine(a0z x b ((x.c k).p l).val _ (h.ext x3) (λe=>a2c K1.2 e)).mono ?_;rintro e w4 ⟨rfl,hq4⟩;cases tv:a1y x ((x.c k).p l).val
         ·have S:=uU (show ∀j,j<l+1->¬cZ x ((x.c k).p j).key/\¬cZ x ((x.c k).p j).val from λj hj=>by
           by_cases e:j=l
           ·subst e;exact⟨λhh=>by rw[<-a0c,tk] at hh;simp at hh,λhh=>by rw[<-a0c,tv] at hh;simp at hh⟩
           ·exact HB j (by omega))
          go_wp2_with fail;go_roundw
          case rel=>exact⟨l+1,by omega,by go_num,S,x3.trans hq4,Ext.trans (Ext.trans hy2 hq3) hq4⟩
          case measure=>simp [intOf];omega
         ·have NN:=uU (show ¬R7 x from λr=>((r MK k hlt).2 l (by rw[uH LK];omega)).2 (a0c.1 tv));go_wp2_with fail;go_ret
          first | (exact Or.inl ⟨rfl,NN,x3.trans hq4⟩) | (exact⟨false,rfl,⟨λf=>by simp at f,λr=>(NN r).elim⟩,x3.trans hq4⟩)
        ·have NN:=uU (show ¬R7 x from λr=>((r MK k hlt).2 l (by rw[uH LK];omega)).1 (a0c.1 tk));go_wp2_with fail;go_ret
         first | (exact Or.inl ⟨rfl,NN,x3⟩) | (exact⟨false,rfl,⟨λf=>by simp at f,λr=>(NN r).elim⟩,x3⟩)
       ·have S:=uH ST (λl' hl'=>uH HB l' (by rw[uH LK] at hl';omega));go_wp2_with fail;go_roundw
        case rel=>exact⟨k+1,by omega,by go_num,S,hx2⟩
        case measure=>simp [intOf];omega
   ·have D0:=uU (show(x.c k).J=0 by simpa using d0);have d2:((x.c k).J == 2)=false:=by simp at d0 ⊢;omega
    by_cases bad:cU (x.c k)/\True
    ·have NN:=uU (show ¬R7 x from λr=>(r MK k hlt).1 ⟨bad.1,D0,Or.inl HPH⟩);cases w1:((x.c k).U == 1)
     ·have w2:((x.c k).U == 2)=true:=by have:=bad.1;unfold cU at this;simp at w1 ⊢;omega
      clear bad;go_wp2_with fail;go_ret
      first | (exact Or.inl ⟨rfl,NN,hbl1⟩) | (exact⟨false,rfl,⟨λf=>by simp at f,λr=>(NN r).elim⟩,hbl1⟩)
     ·clear bad;go_wp2_with fail;go_ret
      first | (exact Or.inl ⟨rfl,NN,hbl1⟩) | (exact⟨false,rfl,⟨λf=>by simp at f,λr=>(NN r).elim⟩,hbl1⟩)
    ·have BD:=uU bad
     have ST:=uU (show(∀l,l<cC x k->¬cZ x ((x.c k).p l).key/\¬cZ x ((x.c k).p l).val)->Hid (∀j,j<k+1->¬(cU (x.c j)/\(x.c j).J=0/\(x.E=2\/(j:Int)<x.I))/\∀l,l<cC x j->¬cZ x ((x.c j).p l).key/\¬cZ x ((x.c j).p l).val) from λhn j hj=>by
      by_cases e:j=k
      ·subst e;exact⟨λhb=>uH BD ⟨hb.1,trivial⟩,hn⟩
      ·exact HA j (by omega))
     have w1:((x.c k).U == 1)=false:=by have:=uH BD;unfold cU at this;simp at this ⊢;omega
     have w2:((x.c k).U == 2)=false:=by have:=uH BD;unfold cU at this;simp at this ⊢;omega
     by_cases hg:0<x.D.length
     ·obtain⟨bg,og,rfl,pg⟩:=(h.ext hbl).G 0 hg;unfold yD at pg;simp only [Nat.zero_mul,Nat.add_zero] at pg;have hbg:bg<wr.heap.size:=uL pg;have hg4:(0:Int)<(x.D.length:Int):=by omega
      cases d3:(x.D[0] == (k:Int))
      ·have LK:=uU (show cC x k=0 by have e1:¬(x.c k).J=2:=(by simpa using d2);have e2:x.D.getD 0 0=x.D[0]:=(by simp [hg]);have e3:¬x.D[0]=(k:Int):=(by simpa using d3);unfold cC;rw[if_neg e1,if_neg (by rw[e2];exact λc=>e3 c.2.2)]);go_wp2_with fail;go_loopw [7] (λi wr2=>i=.int .i64 0/\wr2=wr.alloc (.cells #[.int .i64 (x.c k).st,.int .i64 (x.c k).kind,.int .i64 (x.c k).T,.int .i64 (x.c k).U,.int .i64 (x.c k).born,.int .i64 (x.c k).J,.int .i64 (x.c k).to,.slice ap (x.c k).F.length kp] 62)) (λ_ _=>0)
       case atStart=>exact⟨rfl,rfl⟩
       case round=>
        obtain⟨rfl,rfl⟩:=hrel;have S:=uH ST (λl hl=>by rw[uH LK] at hl;omega);go_wp2_with fail;go_roundw
        case rel=>exact⟨k+1,by omega,by go_num,S,hbl1⟩
        case measure=>simp [intOf];omega
      ·obtain⟨sN,hsN⟩:=Int.eq_ofNat_of_zero_le hs0;have e3:x.D[0]=(k:Int):=by simpa using d3
       have LK:=uU (show cC x k=sN by have e1:¬(x.c k).J=2:=(by simpa using d2);have e2:x.D.getD 0 0=x.D[0]:=(by simp [hg]);unfold cC;rw[if_neg e1,if_pos ⟨uH HPH,by omega,by rw[e2];exact e3⟩,hsN];simp)
       have sle:sN<=(x.c k).F.length:=by
        have e4:=(HR6.2.1 HPH).2.2 (by omega);have e5:x.g0=k:=by simp [Hp.g0,hg,e3]
        rw[e5,hsN] at e4;omega
       rw[hsN] at e7;rw[e3] at pg;clear e3 hs0 hsN;go_wp2_with fail;obtain⟨WO,hWO⟩:∃W:World,W=wr:=⟨_,rfl⟩;subst hWO;go_loopw [7] (λi wr2=>∃l:Nat,l<=sN/\i=.int .i64 l/\(∀j,j<l->¬cZ x ((x.c k).p j).key/\¬cZ x ((x.c k).p j).val)/\Ext w wr2/\Ext (WO.alloc (.cells #[.int .i64 (x.c k).st,.int .i64 (x.c k).kind,.int .i64 (x.c k).T,.int .i64 (x.c k).U,.int .i64 (x.c k).born,.int .i64 (x.c k).J,.int .i64 (x.c k).to,.slice ap (x.c k).F.length kp] 62)) wr2) (λi _=>sN-(intOf i).toNat)
       case atStart=>exact⟨0,Nat.zero_le _,rfl,λj h=>by omega,hbl1,Ext.refl _⟩
       case round=>
        obtain⟨l,hl,rfl,hall,hx2,hy2⟩:=hrel;have HB:=uU hall;clear hall;clear p0 p1 p2 p3 p4 p5 p6 p7 e5 e6 e7 e8;by_cases hl2:l<sN
        ·obtain⟨b2,o2,rfl,q0,q1,q2,q3,q4,q5⟩:=uH HP l (by omega);have g0:=(Ext.trans hz hy2).keep q0;have g1:=(Ext.trans hz hy2).keep q1;have g2:=(Ext.trans hz hy2).keep q2;have g3:=(Ext.trans hz hy2).keep q3;have g4:=(Ext.trans hz hy2).keep q4;have g5:=(Ext.trans hz hy2).keep q5;have f7:=hy2.keep (b:=WO.heap.size) (o:=7) (v:=.slice (some ⟨b2,o2,none⟩) (x.c k).F.length kp) (by simp [go_sem]);clear q0 q1 q2 q3 q4 q5;have hl0:(0:Int)<=(l:Int):=by omega
         have hl1:(l:Int)<((x.c k).F.length:Int):=by omega
         have K1:=uU (FO l (by omega));go_wp2_with fail;refine(a0z x b ((x.c k).p l).key _ (h.ext hx2) (λe=>a2c K1.1 e)).mono ?_;rintro e w3 ⟨rfl,hq3⟩;have u7:=hq3.keep f7;have u3:=hq3.keep g3;have u4:=hq3.keep g4;have u5:=hq3.keep g5;have x3:Ext w w3:=hx2.trans hq3;cases tk:a1y x ((x.c k).p l).key
         ·go_wp2_with fail;refine(a0z x b ((x.c k).p l).val _ (h.ext x3) (λe=>a2c K1.2 e)).mono ?_;rintro e w4 ⟨rfl,hq4⟩;cases tv:a1y x ((x.c k).p l).val
          ·have S:=uU (show ∀j,j<l+1->¬cZ x ((x.c k).p j).key/\¬cZ x ((x.c k).p j).val from λj hj=>by
            by_cases e:j=l
            ·subst e;exact⟨λhh=>by rw[<-a0c,tk] at hh;simp at hh,λhh=>by rw[<-a0c,tv] at hh;simp at hh⟩
            ·exact HB j (by omega))
           go_wp2_with fail;go_roundw
           case rel=>exact⟨l+1,by omega,by go_num,S,x3.trans hq4,Ext.trans (Ext.trans hy2 hq3) hq4⟩
           case measure=>simp [intOf];omega
          ·have NN:=uU (show ¬R7 x from λr=>((r MK k hlt).2 l (by rw[uH LK];omega)).2 (a0c.1 tv));go_wp2_with fail;go_ret
           first | (exact Or.inl ⟨rfl,NN,x3.trans hq4⟩) | (exact⟨false,rfl,⟨λf=>by simp at f,λr=>(NN r).elim⟩,x3.trans hq4⟩)
         ·have NN:=uU (show ¬R7 x from λr=>((r MK k hlt).2 l (by rw[uH LK];omega)).1 (a0c.1 tk));go_wp2_with fail;go_ret
          first | (exact Or.inl ⟨rfl,NN,x3⟩) | (exact⟨false,rfl,⟨λf=>by simp at f,λr=>(NN r).elim⟩,x3⟩)
        ·have S:=uH ST (λl' hl'=>uH HB l' (by rw[uH LK] at hl';omega));go_wp2_with fail;go_roundw
         case rel=>exact⟨k+1,by omega,by go_num,S,hx2⟩
         case measure=>simp [intOf];omega
     ·have LK:=uU (show cC x k=0 by have e1:¬(x.c k).J=2:=(by simpa using d2);unfold cC;rw[if_neg e1,if_neg (by omega)]);go_wp2_with fail;go_loopw [7] (λi wr2=>i=.int .i64 0/\wr2=wr.alloc (.cells #[.int .i64 (x.c k).st,.int .i64 (x.c k).kind,.int .i64 (x.c k).T,.int .i64 (x.c k).U,.int .i64 (x.c k).born,.int .i64 (x.c k).J,.int .i64 (x.c k).to,.slice ap (x.c k).F.length kp] 62)) (λ_ _=>0)
      case atStart=>exact⟨rfl,rfl⟩
      case round=>
       obtain⟨rfl,rfl⟩:=hrel;have S:=uH ST (λl hl=>by rw[uH LK] at hl;omega);go_wp2_with fail;go_roundw
       case rel=>exact⟨k+1,by omega,by go_num,S,hbl1⟩
       case measure=>simp [intOf];omega
  ·have Y:=uU (show R7 x from λ_ i hi=>uH HA i (by omega));go_wp2_with fail;go_ret
   first | (exact Or.inr ⟨rfl,Y,hbl⟩) | (exact⟨true,rfl,⟨λ_=>uH Y,λ_=>rfl⟩,hbl⟩)
end Go.Proofs.YtddkhnclmeikfaaGreat
