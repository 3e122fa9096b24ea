import Derived.Test.YtddkhnclmeikfaaGreatSpecH2
set_option maxRecDepth 100000
set_option maxHeartbeats 4000000
namespace Go.Proofs.YtddkhnclmeikfaaGreat
open Go.RowKit
attribute [local go_sem ↓] Go.wp_at_zero Go.wp_at_succ
variable{ar ac ag:Option Addr}{kr kc kg:Nat}
theorem c1p(x:Hp)(b:Nat)(w:World)(h:HAt w b x ar kr ac kc ag kg)(q1:(x.phase == 1)=false)(q2:(x.phase == 2)=false):
  Calls Tryz.prog 130 #[.pointer (some ⟨b,0,none⟩)] w λe w'=>∃r:Bool,e=.returned (.bool r)/\(r=true↔R5 x)/\Ext w w':=by
 have MK:=uU (show ¬uE x from λh=>by rcases h with h | h <;> simp [h] at q1 q2);have c4:=h.c4;have c5:=h.c5;have c8:=h.c8;have lc:=h.lc;have lg:=h.lg;by_cases hg:0<x.gray.length
 ·have N:=uU (show ¬R5 x from λr=>by have:=r.1 MK;omega);go_enter Tryz.func130,Tryz.ntmps130;go_wp2_with fail;go_ret;exact⟨false,rfl,⟨λf=>by simp at f,λr=>(N r).elim⟩,Ext.refl _⟩
 have G0:=uU (show ¬uE x->x.gray.length=0 from λ_=>by omega);go_enter Tryz.func130,Tryz.ntmps130;go_wp2_with fail;clear hg;go_loopw [38] (λi wr=>∃k:Nat,k<=x.cells.length/\i=.int .i64 k/\(∀j,j<k->eQ x j)/\Ext w wr) (λi _=>x.cells.length-(intOf i).toNat)
 case atStart=>exact⟨0,Nat.zero_le _,rfl,λj h=>by omega,Ext.refl _⟩
 case round=>
  obtain⟨k,hk,rfl,hall,hbl⟩:=hrel;have HA:=uU hall;clear hall;by_cases hlt:k<x.cells.length
  ·obtain⟨b',o,ap,kp,rfl,p0,p1,p2,p3,p4,p5,p6,p7,lp,P⟩:=(h.ext hbl).cell k hlt;clear P;have d8:=(h.ext hbl).c8;have hb':b'<wr.heap.size:=uL p0;have hb:b<wr.heap.size:=uL d8;have hk0:(0:Int)<=(k:Int):=by omega
   have hk1:(k:Int)<(x.cells.length:Int):=by omega
   have hbl1:=hbl.alloc (.cells #[.int .i64 (x.c k).st,.int .i64 (x.c k).kind,.int .i64 (x.c k).weak,.int .i64 (x.c k).last,.int .i64 (x.c k).born,.int .i64 (x.c k).color,.int .i64 (x.c k).to,.slice ap (x.c k).prs.length kp] 62)
   have ST:=uU (show eQ x k->∀j,j<k+1->eQ x j from λhn j hj=>by
    by_cases e:j=k
    ·subst e;exact hn
    ·exact HA j (by omega))
   go_wp2_with fail;obtain⟨WO,hWO⟩:∃W:World,W=wr:=⟨_,rfl⟩;subst hWO;go_loopw [6,48] (λnv i wr2=>∃l n:Nat,l<=x.gray.length/\i=.int .i64 l/\nv=.int .i64 n/\n<=l/\Hid (n=(x.gray.take l).count (k:Int))/\Ext w wr2/\Ext (WO.alloc (.cells #[.int .i64 (x.c k).st,.int .i64 (x.c k).kind,.int .i64 (x.c k).weak,.int .i64 (x.c k).last,.int .i64 (x.c k).born,.int .i64 (x.c k).color,.int .i64 (x.c k).to,.slice ap (x.c k).prs.length kp] 62)) wr2) (λ_ i _=>x.gray.length-(intOf i).toNat)
   case atStart=>exact⟨0,0,Nat.zero_le _,rfl,rfl,by omega,by show _=_;simp,hbl1,Ext.refl _⟩
   case round=>
    obtain⟨l,n,hl,rfl,rfl,hn,hcnt,hx2,hy2⟩:=hrel;by_cases hl2:l<x.gray.length
    ·obtain⟨bg,og,rfl,pg⟩:=(h.ext hx2).G l hl2;unfold yD at pg;simp only [Nat.mul_one] at pg;clear p0 p1 p2 p3 p4 p5 p6 p7 d8;have hl0:(0:Int)<=(l:Int):=by omega
     have hl1:(l:Int)<(x.gray.length:Int):=by omega
     have ct:=a8p x.gray k l hl2;cases t:(x.gray[l] == (k:Int))
     ·have H:Hid (n=(x.gray.take (l+1)).count (k:Int)):=by have:=uH hcnt;show _=_;rw[ct,t];simpa using this
      clear ct;go_wp2_with fail;go_roundw
      case rel=>exact⟨l+1,n,by omega,by go_num,rfl,by omega,H,hx2,hy2⟩
      case measure=>simp [intOf];omega
     ·have H:Hid (n+1=(x.gray.take (l+1)).count (k:Int)):=by have:=uH hcnt;show _=_;rw[ct,t,<-this];simp
      clear ct;go_wp2_with fail;go_roundw
      case rel=>exact⟨l+1,n+1,by omega,by go_num,by go_num,by omega,H,hx2,hy2⟩
      case measure=>simp [intOf];omega
    ·have hc:=uU (show n=cnt x.gray k by have:=uH hcnt;rw[List.take_of_length_le (by omega)] at this;exact this);have f5:=hy2.keep (b:=WO.heap.size) (o:=5) (v:=.int .i64 (x.c k).color) (by simp [go_sem]);have d5:=(h.ext hx2).c5;have d6:=(h.ext hx2).c6;clear p0 p1 p2 p3 p4 p5 p6 p7 d8 hcnt;cases t1:((x.c k).color == 1)
     ·have t1':(x.c k).color≠1:=by simpa using t1
      have t1b:((x.c k).color != 1)=true:=by simpa using t1'
      by_cases hn0:0<n
      ·have N:=uU (show ¬R5 x from λr=>by have:=(r.2.1 k hlt).2.1 t1';have:=uH hc;omega);clear t1';go_wp2_with fail;go_ret;exact⟨false,rfl,⟨λf=>by simp at f,λr=>(N r).elim⟩,hx2⟩
      ·have hz:Hid (cnt x.gray k=0):=by have:=uH hc;show _=_;omega
       cases t2:((x.c k).color == 2)
       ·have S:=uU (ST ⟨λe=>absurd e t1',λ_=>uH hz,λe=>by simp [e] at t2⟩);clear t1';go_wp2_with fail;go_roundw
        case rel=>exact⟨k+1,by omega,by go_num,S,hx2⟩
        case measure=>simp [intOf];omega
       ·cases t3:(x.phase == 3)
        ·have t3b:(x.phase != 3)=true:=by simpa using t3
         have N:=uU (show ¬R5 x from λr=>by
          rcases (r.2.1 k hlt).2.2 (by simpa using t2) with m | m
          ·exact MK m
          ·simp [m.1] at t3)
         clear t1';go_wp2_with fail;go_ret;exact⟨false,rfl,⟨λf=>by simp at f,λr=>(N r).elim⟩,hx2⟩
        ·have t3b:(x.phase != 3)=false:=by simpa using t3
         by_cases t4:(k:Int)<x.hand
         ·have N:=uU (show ¬R5 x from λr=>by
           rcases (r.2.1 k hlt).2.2 (by simpa using t2) with m | m
           ·exact MK m
           ·omega)
          clear t1';go_wp2_with fail;go_ret;exact⟨false,rfl,⟨λf=>by simp at f,λr=>(N r).elim⟩,hx2⟩
         ·have S:=uU (ST ⟨λe=>absurd e t1',λ_=>uH hz,λ_=>Or.inr ⟨by simpa using t3,by omega⟩⟩);clear t1';go_wp2_with fail;go_roundw
          case rel=>exact⟨k+1,by omega,by go_num,S,hx2⟩
          case measure=>simp [intOf];omega
     ·have t1':(x.c k).color=1:=by simpa using t1
      have t1b:((x.c k).color != 1)=false:=by simp [t1']
      have t1c:((x.c k).color == 2)=false:=by simp [t1']
      have TC:=uU t1';clear t1';by_cases hn1:n=1
      ·have hn2:((n:Int) != 1)=false:=by simp [hn1]
       have S:=uU (ST ⟨λ_=>by have:=uH hc;omega,λe=>absurd TC e,λe=>by have:=uH TC;omega⟩);clear hn1;go_wp2_with fail;go_roundw
       case rel=>exact⟨k+1,by omega,by go_num,S,hx2⟩
       case measure=>simp [intOf];omega
      ·have hn2:((n:Int) != 1)=true:=by simp;omega
       have N:=uU (show ¬R5 x from λr=>by have:=(r.2.1 k hlt).1 TC;have:=uH hc;omega);clear hn1;go_wp2_with fail;go_ret;exact⟨false,rfl,⟨λf=>by simp at f,λr=>(N r).elim⟩,hx2⟩
  ·have A1:=uU (show ∀j,j<x.cells.length->eQ x j from λj hj=>uH HA j (by omega));have d8:=(h.ext hbl).c8;go_wp2_with fail;clear hlt hk HA;go_loopw [102] (λi wr2=>∃l:Nat,l<=x.gray.length/\i=.int .i64 l/\(∀j (hj:j<x.gray.length),j<l->0<=x.gray[j]/\x.gray[j]<x.cells.length)/\Ext w wr2) (λi _=>x.gray.length-(intOf i).toNat)
   case atStart=>exact⟨0,Nat.zero_le _,rfl,λj hj h=>by omega,hbl⟩
   case round=>
    clear hbl d8;obtain⟨l,hl,rfl,hall,hx2⟩:=hrel;have HB:=uU hall;clear hall;by_cases hl2:l<x.gray.length
    ·obtain⟨bg,og,rfl,pg⟩:=(h.ext hx2).G l hl2;unfold yD at pg;simp only [Nat.mul_one] at pg;have d4:=(h.ext hx2).c4;have hl0:(0:Int)<=(l:Int):=by omega
     have hl1:(l:Int)<(x.gray.length:Int):=by omega
     by_cases t1:x.gray[l]<0
     ·have N:=uU (show ¬R5 x from λr=>by have:=r.2.2 x.gray[l] (List.getElem_mem hl2);omega);go_wp2_with fail;go_ret
      first | (exact Or.inl ⟨rfl,N,hx2⟩) | (exact⟨false,rfl,⟨λf=>by simp at f,λr=>(N r).elim⟩,hx2⟩)
     ·by_cases t2:(x.cells.length:Int)<=x.gray[l]
      ·have N:=uU (show ¬R5 x from λr=>by have:=r.2.2 x.gray[l] (List.getElem_mem hl2);omega);go_wp2_with fail;go_ret
       first | (exact Or.inl ⟨rfl,N,hx2⟩) | (exact⟨false,rfl,⟨λf=>by simp at f,λr=>(N r).elim⟩,hx2⟩)
      ·have S:=uU (show ∀j (hj:j<x.gray.length),j<l+1->0<=x.gray[j]/\x.gray[j]<x.cells.length from λj hj hjl=>by
        by_cases e:j=l
        ·subst e;omega
        ·exact HB j hj (by omega))
       go_wp2_with fail;go_roundw
       case rel=>exact⟨l+1,by omega,by go_num,S,hx2⟩
       case measure=>simp [intOf];omega
    ·have Y:=uU (show R5 x from⟨G0,A1,λg hg=>by
      obtain⟨j,hj,rfl⟩:=List.getElem_of_mem hg;exact HB j hj (by omega)⟩)
     go_wp2_with fail;go_ret;exact⟨true,rfl,⟨λ_=>uH Y,λ_=>rfl⟩,hx2⟩
theorem b6u(x:Hp)(b:Nat)(w:World)(h:HAt w b x ar kr ac kc ag kg):
  Calls Tryz.prog 130 #[.pointer (some ⟨b,0,none⟩)] w λe w'=>∃r:Bool,e=.returned (.bool r)/\(r=true↔R5 x)/\Ext w w':=by
 cases q1:(x.phase == 1)
 ·cases q2:(x.phase == 2)
  ·exact c1p x b w h q1 q2
  ·exact c1o x b w h q1 q2
 ·exact c1n x b w h q1
theorem a2a{y:Wd}{n:Nat}(h:uJ y n)(e:y.k=2):0<=y.a/\y.a<n:=by unfold uJ at h;omega
theorem c5d(x:Hp)(b:Nat)(w:World)(h:HAt w b x ar kr ac kc ag kg)(fo:∀i,i<x.cells.length->∀k,k<(x.c i).prs.length->uJ ((x.c i).p k).key x.cells.length/\uJ ((x.c i).p k).val x.cells.length)(r6:R6 x)(r1:R1 x)(q1:(x.phase == 1)=true):
  Calls Tryz.prog 132 #[.pointer (some ⟨b,0,none⟩)] w λe w'=>∃r:Bool,e=.returned (.bool r)/\(r=true↔R7 x)/\Ext w w':=by
 have hph:x.phase=1:=by simpa using q1
 have MK:=uU (show uE x from Or.inl hph);have HPH:=uU hph;clear hph;have q1n:(x.phase != 1)=false:=by simpa using q1
 have q2:(x.phase == 2)=false:=by simp at q1 ⊢;omega
 have c4:=h.c4;have c5:=h.c5;have lc:=h.lc;have lg:=h.lg;have hs0:=r1.sub.1;have FOO:=uU fo;have HR6:=uU r6;clear fo r6 r1;go_enter Tryz.func132,Tryz.ntmps132;go_wp2_with fail;go_loopw [25] (λi wr=>∃k:Nat,k<=x.cells.length/\i=.int .i64 k/\(∀j,j<k->¬(cQ (x.c j)/\(x.c j).color=0/\(x.phase=2\/(j:Int)<x.hand))/\∀l,l<cN x j->¬cX x ((x.c j).p l).key/\¬cX x ((x.c j).p l).val)/\Ext w wr) (λi _=>x.cells.length-(intOf i).toNat)
 case atStart=>exact⟨0,Nat.zero_le _,rfl,λj h=>by omega,Ext.refl _⟩
 case round=>
  obtain⟨k,hk,rfl,hall,hbl⟩:=hrel;have HA:=uU hall;clear hall;by_cases hlt:k<x.cells.length
  ·have hh:=h.ext hbl;obtain⟨b',o,ap,kp,rfl,p0,p1,p2,p3,p4,p5,p6,p7,lp,P⟩:=hh.cell k hlt;have HP:=uU P;have FO:=uU (FOO k hlt);clear P;have e5:=hh.c5;have e6:=hh.c6;have e7:=hh.c7;have e8:=hh.c8;have hb':b'<wr.heap.size:=uL p0;have hb:b<wr.heap.size:=uL e8;have hk0:(0:Int)<=(k:Int):=by omega
   have hk1:(k:Int)<(x.cells.length:Int):=by omega
   have hbl1:=hbl.alloc (.cells #[.int .i64 (x.c k).st,.int .i64 (x.c k).kind,.int .i64 (x.c k).weak,.int .i64 (x.c k).last,.int .i64 (x.c k).born,.int .i64 (x.c k).color,.int .i64 (x.c k).to,.slice ap (x.c k).prs.length kp] 62);have hz:=(Ext.refl wr).alloc (.cells #[.int .i64 (x.c k).st,.int .i64 (x.c k).kind,.int .i64 (x.c k).weak,.int .i64 (x.c k).last,.int .i64 (x.c k).born,.int .i64 (x.c k).color,.int .i64 (x.c k).to,.slice ap (x.c k).prs.length kp] 62);cases d0:((x.c k).color == 0)
   ·have D0:=uU (show(x.c k).color≠0 by simpa using d0)
    have ST:=uU (show(∀l,l<cN x k->¬cX x ((x.c k).p l).key/\¬cX x ((x.c k).p l).val)->Hid (∀j,j<k+1->¬(cQ (x.c j)/\(x.c j).color=0/\(x.phase=2\/(j:Int)<x.hand))/\∀l,l<cN x j->¬cX x ((x.c j).p l).key/\¬cX x ((x.c j).p l).val) from λhn j hj=>by
     by_cases e:j=k
     ·subst e;exact⟨λhb=>uH D0 hb.2.1,hn⟩
     ·exact HA j (by omega))
    rcases (show((x.c k).last == 1)=true\/(((x.c k).last == 1)=false/\((x.c k).last == 2)=true)\/(((x.c k).last == 1)=false/\((x.c k).last == 2)=false) by cases ((x.c k).last == 1) <;> cases ((x.c k).last == 2) <;> simp) with w1 | ⟨w1,w2⟩ | ⟨w1,w2⟩
    all_goals
     cases d2:((x.c k).color == 2)
     ·skip
      have LK:=uU (show cN x k=0 by have e1:=uH HPH;have e2:¬(x.c k).color=2:=(by simpa using d2);simp [cN,e1,e2]);go_wp2_with fail;go_loopw [7] (λi wr2=>i=.int .i64 0/\wr2=wr.alloc (.cells #[.int .i64 (x.c k).st,.int .i64 (x.c k).kind,.int .i64 (x.c k).weak,.int .i64 (x.c k).last,.int .i64 (x.c k).born,.int .i64 (x.c k).color,.int .i64 (x.c k).to,.slice ap (x.c k).prs.length kp] 62)) (λ_ _=>0)
      case atStart=>exact⟨rfl,rfl⟩
      case round=>
       obtain⟨rfl,rfl⟩:=hrel;have S:=uH ST (λl hl=>by rw[uH LK] at hl;omega);go_wp2_with fail;go_roundw
       case rel=>exact⟨k+1,by omega,by go_num,S,hbl1⟩
       case measure=>simp [intOf];omega
     ·have LK:=uU (show cN x k=(x.c k).prs.length by simp at d2;simp [cN,d2]);go_wp2_with fail;obtain⟨WO,hWO⟩:∃W:World,W=wr:=⟨_,rfl⟩;subst hWO;go_loopw [7] (λi wr2=>∃l:Nat,l<=(x.c k).prs.length/\i=.int .i64 l/\(∀j,j<l->¬cX x ((x.c k).p j).key/\¬cX x ((x.c k).p j).val)/\Ext w wr2/\Ext (WO.alloc (.cells #[.int .i64 (x.c k).st,.int .i64 (x.c k).kind,.int .i64 (x.c k).weak,.int .i64 (x.c k).last,.int .i64 (x.c k).born,.int .i64 (x.c k).color,.int .i64 (x.c k).to,.slice ap (x.c k).prs.length kp] 62)) wr2) (λi _=>(x.c k).prs.length-(intOf i).toNat)
      case atStart=>exact⟨0,Nat.zero_le _,rfl,λj h=>by omega,hbl1,Ext.refl _⟩
      case round=>
       obtain⟨l,hl,rfl,hall,hx2,hy2⟩:=hrel;have HB:=uU hall;clear hall;clear p0 p1 p2 p3 p4 p5 p6 p7 e5 e6 e7 e8;by_cases hl2:l<(x.c k).prs.length
       ·obtain⟨b2,o2,rfl,q0,q1,q2,q3,q4,q5⟩:=uH HP l (by omega);have g0:=(Ext.trans hz hy2).keep q0;have g1:=(Ext.trans hz hy2).keep q1;have g2:=(Ext.trans hz hy2).keep q2;have g3:=(Ext.trans hz hy2).keep q3;have g4:=(Ext.trans hz hy2).keep q4;have g5:=(Ext.trans hz hy2).keep q5;have f7:=hy2.keep (b:=WO.heap.size) (o:=7) (v:=.slice (some ⟨b2,o2,none⟩) (x.c k).prs.length kp) (by simp [go_sem]);clear q0 q1 q2 q3 q4 q5;have hl0:(0:Int)<=(l:Int):=by omega
        have hl1:(l:Int)<((x.c k).prs.length:Int):=by omega
        have K1:=uU (FO l (by omega));go_wp2_with fail;refine(a0w x b ((x.c k).p l).key _ (h.ext hx2) (λe=>a2a K1.1 e)).mono ?_;rintro e w3 ⟨rfl,hq3⟩;have u7:=hq3.keep f7;have u3:=hq3.keep g3;have u4:=hq3.keep g4;have u5:=hq3.keep g5;have x3:Ext w w3:=hx2.trans hq3;cases tk:a1u x ((x.c k).p l).key
        ·go_wp2_with fail;refine(a0w x b ((x.c k).p l).val _ (h.ext x3) (λe=>a2a K1.2 e)).mono ?_;rintro e w4 ⟨rfl,hq4⟩;cases tv:a1u x ((x.c k).p l).val
         ·have S:=uU (show ∀j,j<l+1->¬cX x ((x.c k).p j).key/\¬cX x ((x.c k).p j).val from λj hj=>by
           by_cases e:j=l
           ·subst e;exact⟨λhh=>by rw[<-a0c,tk] at hh;simp at hh,λhh=>by rw[<-a0c,tv] at hh;simp at hh⟩
           ·exact HB j (by omega))
          go_wp2_with fail;go_roundw
          case rel=>exact⟨l+1,by omega,by go_num,S,x3.trans hq4,Ext.trans (Ext.trans hy2 hq3) hq4⟩
          case measure=>simp [intOf];omega
         ·have NN:=uU (show ¬R7 x from λr=>((r MK k hlt).2 l (by rw[uH LK];omega)).2 (a0c.1 tv));go_wp2_with fail;go_ret
          first | (exact Or.inl ⟨rfl,NN,x3.trans hq4⟩) | (exact⟨false,rfl,⟨λf=>by simp at f,λr=>(NN r).elim⟩,x3.trans hq4⟩)
        ·have NN:=uU (show ¬R7 x from λr=>((r MK k hlt).2 l (by rw[uH LK];omega)).1 (a0c.1 tk));go_wp2_with fail;go_ret
         first | (exact Or.inl ⟨rfl,NN,x3⟩) | (exact⟨false,rfl,⟨λf=>by simp at f,λr=>(NN r).elim⟩,x3⟩)
       ·have S:=uH ST (λl' hl'=>uH HB l' (by rw[uH LK] at hl';omega));go_wp2_with fail;go_roundw
        case rel=>exact⟨k+1,by omega,by go_num,S,hx2⟩
        case measure=>simp [intOf];omega
   ·have D0:=uU (show(x.c k).color=0 by simpa using d0);have d2:((x.c k).color == 2)=false:=by simp at d0 ⊢;omega
    by_cases bad:cQ (x.c k)/\(k:Int)<x.hand
    ·have NN:=uU (show ¬R7 x from λr=>(r MK k hlt).1 ⟨bad.1,D0,Or.inr bad.2⟩);have bh:=bad.2;cases w1:((x.c k).last == 1)
     ·have w2:((x.c k).last == 2)=true:=by have:=bad.1;unfold cQ at this;simp at w1 ⊢;omega
      clear bad;go_wp2_with fail;go_ret
      first | (exact Or.inl ⟨rfl,NN,hbl1⟩) | (exact⟨false,rfl,⟨λf=>by simp at f,λr=>(NN r).elim⟩,hbl1⟩)
     ·clear bad;go_wp2_with fail;go_ret
      first | (exact Or.inl ⟨rfl,NN,hbl1⟩) | (exact⟨false,rfl,⟨λf=>by simp at f,λr=>(NN r).elim⟩,hbl1⟩)
    ·have BD:=uU bad
     have ST:=uU (show(∀l,l<cN x k->¬cX x ((x.c k).p l).key/\¬cX x ((x.c k).p l).val)->Hid (∀j,j<k+1->¬(cQ (x.c j)/\(x.c j).color=0/\(x.phase=2\/(j:Int)<x.hand))/\∀l,l<cN x j->¬cX x ((x.c j).p l).key/\¬cX x ((x.c j).p l).val) from λhn j hj=>by
      by_cases e:j=k
      ·subst e;exact⟨λhb=>uH BD ⟨hb.1,by have:=uH HPH;omega⟩,hn⟩
      ·exact HA j (by omega))
     cases w1:((x.c k).last == 1)
     ·cases w2:((x.c k).last == 2)
      ·skip
       have LK:=uU (show cN x k=0 by have e1:=uH HPH;have e2:¬(x.c k).color=2:=(by simpa using d2);simp [cN,e1,e2]);go_wp2_with fail;go_loopw [7] (λi wr2=>i=.int .i64 0/\wr2=wr.alloc (.cells #[.int .i64 (x.c k).st,.int .i64 (x.c k).kind,.int .i64 (x.c k).weak,.int .i64 (x.c k).last,.int .i64 (x.c k).born,.int .i64 (x.c k).color,.int .i64 (x.c k).to,.slice ap (x.c k).prs.length kp] 62)) (λ_ _=>0)
       case atStart=>exact⟨rfl,rfl⟩
       case round=>
        obtain⟨rfl,rfl⟩:=hrel;have S:=uH ST (λl hl=>by rw[uH LK] at hl;omega);go_wp2_with fail;go_roundw
        case rel=>exact⟨k+1,by omega,by go_num,S,hbl1⟩
        case measure=>simp [intOf];omega
      ·have nh:¬(k:Int)<x.hand:=λhb=>uH BD ⟨Or.inr (by simpa using w2),hb⟩
       have LK:=uU (show cN x k=0 by have e1:=uH HPH;have e2:¬(x.c k).color=2:=(by simpa using d2);simp [cN,e1,e2]);go_wp2_with fail;go_loopw [7] (λi wr2=>i=.int .i64 0/\wr2=wr.alloc (.cells #[.int .i64 (x.c k).st,.int .i64 (x.c k).kind,.int .i64 (x.c k).weak,.int .i64 (x.c k).last,.int .i64 (x.c k).born,.int .i64 (x.c k).color,.int .i64 (x.c k).to,.slice ap (x.c k).prs.length kp] 62)) (λ_ _=>0)
       case atStart=>exact⟨rfl,rfl⟩
       case round=>
        obtain⟨rfl,rfl⟩:=hrel;have S:=uH ST (λl hl=>by rw[uH LK] at hl;omega);go_wp2_with fail;go_roundw
        case rel=>exact⟨k+1,by omega,by go_num,S,hbl1⟩
        case measure=>simp [intOf];omega
     ·have nh:¬(k:Int)<x.hand:=λhb=>uH BD ⟨Or.inl (by simpa using w1),hb⟩
      have LK:=uU (show cN x k=0 by have e1:=uH HPH;have e2:¬(x.c k).color=2:=(by simpa using d2);simp [cN,e1,e2]);go_wp2_with fail;go_loopw [7] (λi wr2=>i=.int .i64 0/\wr2=wr.alloc (.cells #[.int .i64 (x.c k).st,.int .i64 (x.c k).kind,.int .i64 (x.c k).weak,.int .i64 (x.c k).last,.int .i64 (x.c k).born,.int .i64 (x.c k).color,.int .i64 (x.c k).to,.slice ap (x.c k).prs.length kp] 62)) (λ_ _=>0)
      case atStart=>exact⟨rfl,rfl⟩
      case round=>
       obtain⟨rfl,rfl⟩:=hrel;have S:=uH ST (λl hl=>by rw[uH LK] at hl;omega);go_wp2_with fail;go_roundw
       case rel=>exact⟨k+1,by omega,by go_num,S,hbl1⟩
       case measure=>simp [intOf];omega
  ·have Y:=uU (show R7 x from λ_ i hi=>uH HA i (by omega));go_wp2_with fail;go_ret
   first | (exact Or.inr ⟨rfl,Y,hbl⟩) | (exact⟨true,rfl,⟨λ_=>uH Y,λ_=>rfl⟩,hbl⟩)
end Go.Proofs.YtddkhnclmeikfaaGreat
