import Derived.Test.YtddkhnclmeikfaaGreatSpecH
set_option maxRecDepth 100000
set_option maxHeartbeats 2000000
namespace Go.Proofs.YtddkhnclmeikfaaGreat
open Go.RowKit
attribute [local go_sem ↓] Go.wp_at_zero Go.wp_at_succ
variable{ar ac ag:Option Addr}{kr kc kg:Nat}{x:Hp}
theorem b9a(x:Hp)(b:Nat)(w:World)(h:HAt w b x ar kr ac kc ag kg)(q1:(x.phase == 1)=false)(q2:(x.phase == 2)=true):
  Calls Tryz.prog 130 #[.pointer (some ⟨b,0,none⟩)] w λe w'=>∃r:Bool,e=.returned (.bool r)/\(r=true↔R5 x)/\Ext w w':=by
 have MK:=uU (show uE x from Or.inr (by simpa using q2));have c4:=h.c4;have c5:=h.c5;have c8:=h.c8;have lc:=h.lc;have lg:=h.lg;have G0:=uU (show ¬uE x->x.gray.length=0 from λn=>(n MK).elim);go_enter Tryz.func130,Tryz.ntmps130;go_wp2_with fail;go_loopw [38] (λi wr=>∃k:Nat,k<=x.cells.length/\i=.int .i64 k/\(∀j,j<k->eE x j)/\Ext w wr) (λi _=>x.cells.length-(intOf i).toNat)
 case atStart=>exact⟨0,Nat.zero_le _,rfl,λj h=>by omega,Ext.refl _⟩
 case round=>
  obtain⟨k,hk,rfl,hall,hbl⟩:=hrel;have HA:=uU hall;clear hall;by_cases hlt:k<x.cells.length
  ·obtain⟨b',o,ap,kp,rfl,p0,p1,p2,p3,p4,p5,p6,p7,lp,P⟩:=(h.ext hbl).cell k hlt;clear P;have d8:=(h.ext hbl).c8;have hb':b'<wr.heap.size:=uL p0;have hb:b<wr.heap.size:=uL d8;have hk0:(0:Int)<=(k:Int):=by omega
   have hk1:(k:Int)<(x.cells.length:Int):=by omega
   have hbl1:=hbl.alloc (.cells #[.int .i64 (x.c k).st,.int .i64 (x.c k).kind,.int .i64 (x.c k).weak,.int .i64 (x.c k).last,.int .i64 (x.c k).born,.int .i64 (x.c k).color,.int .i64 (x.c k).to,.slice ap (x.c k).prs.length kp] 62)
   have ST:=uU (show eE x k->∀j,j<k+1->eE x j from λhn j hj=>by
    by_cases e:j=k
    ·subst e;exact hn
    ·exact HA j (by omega))
   go_wp2_with fail;obtain⟨WO,hWO⟩:∃W:World,W=wr:=⟨_,rfl⟩;subst hWO;go_loopw [6,48] (λnv i wr2=>∃l n:Nat,l<=x.gray.length/\i=.int .i64 l/\nv=.int .i64 n/\n<=l/\Hid (n=(x.gray.take l).count (k:Int))/\Ext w wr2/\Ext (WO.alloc (.cells #[.int .i64 (x.c k).st,.int .i64 (x.c k).kind,.int .i64 (x.c k).weak,.int .i64 (x.c k).last,.int .i64 (x.c k).born,.int .i64 (x.c k).color,.int .i64 (x.c k).to,.slice ap (x.c k).prs.length kp] 62)) wr2) (λ_ i _=>x.gray.length-(intOf i).toNat)
   case atStart=>exact⟨0,0,Nat.zero_le _,rfl,rfl,by omega,by show _=_;simp,hbl1,Ext.refl _⟩
   case round=>
    obtain⟨l,n,hl,rfl,rfl,hn,hcnt,hx2,hy2⟩:=hrel;by_cases hl2:l<x.gray.length
    ·obtain⟨bg,og,rfl,pg⟩:=(h.ext hx2).G l hl2;unfold yQ at pg;simp only [Nat.mul_one] at pg;clear p0 p1 p2 p3 p4 p5 p6 p7 d8;have hl0:(0:Int)<=(l:Int):=by omega
     have hl1:(l:Int)<(x.gray.length:Int):=by omega
     have ct:=a7r x.gray k l hl2;cases t:(x.gray[l] == (k:Int))
     ·have H:Hid (n=(x.gray.take (l+1)).count (k:Int)):=by have:=uH hcnt;show _=_;rw[ct,t];simpa using this
      clear ct;go_wp2_with fail;go_roundw
      case rel=>exact⟨l+1,n,by omega,by go_num,rfl,by omega,H,hx2,hy2⟩
      case measure=>simp [intOf];omega
     ·have H:Hid (n+1=(x.gray.take (l+1)).count (k:Int)):=by have:=uH hcnt;show _=_;rw[ct,t,<-this];simp
      clear ct;go_wp2_with fail;go_roundw
      case rel=>exact⟨l+1,n+1,by omega,by go_num,by go_num,by omega,H,hx2,hy2⟩
      case measure=>simp [intOf];omega
    ·have hc:=uU (show n=cnt x.gray k by have:=uH hcnt;rw[List.take_of_length_le (by omega)] at this;exact this);have f5:=hy2.keep (b:=WO.heap.size) (o:=5) (v:=.int .i64 (x.c k).color) (by simp [go_sem]);have d5:=(h.ext hx2).c5;have d6:=(h.ext hx2).c6;clear p0 p1 p2 p3 p4 p5 p6 p7 d8 hcnt;cases t1:((x.c k).color == 1)
     ·have t1':(x.c k).color≠1:=by simpa using t1
      have t1b:((x.c k).color != 1)=true:=by simpa using t1'
      by_cases hn0:0<n
      ·have N:=uU (show ¬R5 x from λr=>by have:=(r.2.1 k hlt).2.1 t1';have:=uH hc;omega);clear t1';go_wp2_with fail;go_ret;exact⟨false,rfl,⟨λf=>by simp at f,λr=>(N r).elim⟩,hx2⟩
      ·have hz:Hid (cnt x.gray k=0):=by have:=uH hc;show _=_;omega
       cases t2:((x.c k).color == 2)
       ·have S:=uU (ST ⟨λe=>absurd e t1',λ_=>uH hz,λe=>by simp [e] at t2⟩);clear t1';go_wp2_with fail;go_roundw
        case rel=>exact⟨k+1,by omega,by go_num,S,hx2⟩
        case measure=>simp [intOf];omega
       ·have S:=uU (ST ⟨λe=>absurd e t1',λ_=>uH hz,λ_=>Or.inl MK⟩);clear t1';go_wp2_with fail;go_roundw
        case rel=>exact⟨k+1,by omega,by go_num,S,hx2⟩
        case measure=>simp [intOf];omega
     ·have t1':(x.c k).color=1:=by simpa using t1
      have t1b:((x.c k).color != 1)=false:=by simp [t1']
      have t1c:((x.c k).color == 2)=false:=by simp [t1']
      have TC:=uU t1';clear t1';by_cases hn1:n=1
      ·have hn2:((n:Int) != 1)=false:=by simp [hn1]
       have S:=uU (ST ⟨λ_=>by have:=uH hc;omega,λe=>absurd TC e,λe=>by have:=uH TC;omega⟩);clear hn1;go_wp2_with fail;go_roundw
       case rel=>exact⟨k+1,by omega,by go_num,S,hx2⟩
       case measure=>simp [intOf];omega
      ·have hn2:((n:Int) != 1)=true:=by simp;omega
       have N:=uU (show ¬R5 x from λr=>by have:=(r.2.1 k hlt).1 TC;have:=uH hc;omega);clear hn1;go_wp2_with fail;go_ret;exact⟨false,rfl,⟨λf=>by simp at f,λr=>(N r).elim⟩,hx2⟩
  ·have A1:=uU (show ∀j,j<x.cells.length->eE x j from λj hj=>uH HA j (by omega));have d8:=(h.ext hbl).c8;go_wp2_with fail;clear hlt hk HA;go_loopw [102] (λi wr2=>∃l:Nat,l<=x.gray.length/\i=.int .i64 l/\(∀j (hj:j<x.gray.length),j<l->0<=x.gray[j]/\x.gray[j]<x.cells.length)/\Ext w wr2) (λi _=>x.gray.length-(intOf i).toNat)
   case atStart=>exact⟨0,Nat.zero_le _,rfl,λj hj h=>by omega,hbl⟩
   case round=>
    clear hbl d8;obtain⟨l,hl,rfl,hall,hx2⟩:=hrel;have HB:=uU hall;clear hall;by_cases hl2:l<x.gray.length
    ·obtain⟨bg,og,rfl,pg⟩:=(h.ext hx2).G l hl2;unfold yQ at pg;simp only [Nat.mul_one] at pg;have d4:=(h.ext hx2).c4;have hl0:(0:Int)<=(l:Int):=by omega
     have hl1:(l:Int)<(x.gray.length:Int):=by omega
     by_cases t1:x.gray[l]<0
     ·have N:=uU (show ¬R5 x from λr=>by have:=r.2.2 x.gray[l] (List.getElem_mem hl2);omega);go_wp2_with fail;go_ret
      first | (exact Or.inl ⟨rfl,N,hx2⟩) | (exact⟨false,rfl,⟨λf=>by simp at f,λr=>(N r).elim⟩,hx2⟩)
     ·by_cases t2:(x.cells.length:Int)<=x.gray[l]
      ·have N:=uU (show ¬R5 x from λr=>by have:=r.2.2 x.gray[l] (List.getElem_mem hl2);omega);go_wp2_with fail;go_ret
       first | (exact Or.inl ⟨rfl,N,hx2⟩) | (exact⟨false,rfl,⟨λf=>by simp at f,λr=>(N r).elim⟩,hx2⟩)
      ·have S:=uU (show ∀j (hj:j<x.gray.length),j<l+1->0<=x.gray[j]/\x.gray[j]<x.cells.length from λj hj hjl=>by
        by_cases e:j=l
        ·subst e;omega
        ·exact HB j hj (by omega))
       go_wp2_with fail;go_roundw
       case rel=>exact⟨l+1,by omega,by go_num,S,hx2⟩
       case measure=>simp [intOf];omega
    ·have Y:=uU (show R5 x from⟨G0,A1,λg hg=>by
      obtain⟨j,hj,rfl⟩:=List.getElem_of_mem hg;exact HB j hj (by omega)⟩)
     go_wp2_with fail;go_ret;exact⟨true,rfl,⟨λ_=>uH Y,λ_=>rfl⟩,hx2⟩
theorem b9b(x:Hp)(b:Nat)(w:World)(h:HAt w b x ar kr ac kc ag kg)(q1:(x.phase == 1)=false)(q2:(x.phase == 2)=false):
  Calls Tryz.prog 130 #[.pointer (some ⟨b,0,none⟩)] w λe w'=>∃r:Bool,e=.returned (.bool r)/\(r=true↔R5 x)/\Ext w w':=by
 have MK:=uU (show ¬uE x from λh=>by rcases h with h | h <;> simp [h] at q1 q2);have c4:=h.c4;have c5:=h.c5;have c8:=h.c8;have lc:=h.lc;have lg:=h.lg;by_cases hg:0<x.gray.length
 ·have N:=uU (show ¬R5 x from λr=>by have:=r.1 MK;omega);go_enter Tryz.func130,Tryz.ntmps130;go_wp2_with fail;go_ret;exact⟨false,rfl,⟨λf=>by simp at f,λr=>(N r).elim⟩,Ext.refl _⟩
 have G0:=uU (show ¬uE x->x.gray.length=0 from λ_=>by omega);go_enter Tryz.func130,Tryz.ntmps130;go_wp2_with fail;clear hg;go_loopw [38] (λi wr=>∃k:Nat,k<=x.cells.length/\i=.int .i64 k/\(∀j,j<k->eE x j)/\Ext w wr) (λi _=>x.cells.length-(intOf i).toNat)
 case atStart=>exact⟨0,Nat.zero_le _,rfl,λj h=>by omega,Ext.refl _⟩
 case round=>
  obtain⟨k,hk,rfl,hall,hbl⟩:=hrel;have HA:=uU hall;clear hall;by_cases hlt:k<x.cells.length
  ·obtain⟨b',o,ap,kp,rfl,p0,p1,p2,p3,p4,p5,p6,p7,lp,P⟩:=(h.ext hbl).cell k hlt;clear P;have d8:=(h.ext hbl).c8;have hb':b'<wr.heap.size:=uL p0;have hb:b<wr.heap.size:=uL d8;have hk0:(0:Int)<=(k:Int):=by omega
   have hk1:(k:Int)<(x.cells.length:Int):=by omega
   have hbl1:=hbl.alloc (.cells #[.int .i64 (x.c k).st,.int .i64 (x.c k).kind,.int .i64 (x.c k).weak,.int .i64 (x.c k).last,.int .i64 (x.c k).born,.int .i64 (x.c k).color,.int .i64 (x.c k).to,.slice ap (x.c k).prs.length kp] 62)
   have ST:=uU (show eE x k->∀j,j<k+1->eE x j from λhn j hj=>by
    by_cases e:j=k
    ·subst e;exact hn
    ·exact HA j (by omega))
   go_wp2_with fail;obtain⟨WO,hWO⟩:∃W:World,W=wr:=⟨_,rfl⟩;subst hWO;go_loopw [6,48] (λnv i wr2=>∃l n:Nat,l<=x.gray.length/\i=.int .i64 l/\nv=.int .i64 n/\n<=l/\Hid (n=(x.gray.take l).count (k:Int))/\Ext w wr2/\Ext (WO.alloc (.cells #[.int .i64 (x.c k).st,.int .i64 (x.c k).kind,.int .i64 (x.c k).weak,.int .i64 (x.c k).last,.int .i64 (x.c k).born,.int .i64 (x.c k).color,.int .i64 (x.c k).to,.slice ap (x.c k).prs.length kp] 62)) wr2) (λ_ i _=>x.gray.length-(intOf i).toNat)
   case atStart=>exact⟨0,0,Nat.zero_le _,rfl,rfl,by omega,by show _=_;simp,hbl1,Ext.refl _⟩
   case round=>
    obtain⟨l,n,hl,rfl,rfl,hn,hcnt,hx2,hy2⟩:=hrel;by_cases hl2:l<x.gray.length
    ·obtain⟨bg,og,rfl,pg⟩:=(h.ext hx2).G l hl2;unfold yQ at pg;simp only [Nat.mul_one] at pg;clear p0 p1 p2 p3 p4 p5 p6 p7 d8;have hl0:(0:Int)<=(l:Int):=by omega
     have hl1:(l:Int)<(x.gray.length:Int):=by omega
     have ct:=a7r x.gray k l hl2;cases t:(x.gray[l] == (k:Int))
     ·have H:Hid (n=(x.gray.take (l+1)).count (k:Int)):=by have:=uH hcnt;show _=_;rw[ct,t];simpa using this
      clear ct;go_wp2_with fail;go_roundw
      case rel=>exact⟨l+1,n,by omega,by go_num,rfl,by omega,H,hx2,hy2⟩
      case measure=>simp [intOf];omega
     ·have H:Hid (n+1=(x.gray.take (l+1)).count (k:Int)):=by have:=uH hcnt;show _=_;rw[ct,t,<-this];simp
      clear ct;go_wp2_with fail;go_roundw
      case rel=>exact⟨l+1,n+1,by omega,by go_num,by go_num,by omega,H,hx2,hy2⟩
      case measure=>simp [intOf];omega
    ·have hc:=uU (show n=cnt x.gray k by have:=uH hcnt;rw[List.take_of_length_le (by omega)] at this;exact this);have f5:=hy2.keep (b:=WO.heap.size) (o:=5) (v:=.int .i64 (x.c k).color) (by simp [go_sem]);have d5:=(h.ext hx2).c5;have d6:=(h.ext hx2).c6;clear p0 p1 p2 p3 p4 p5 p6 p7 d8 hcnt;cases t1:((x.c k).color == 1)
     ·have t1':(x.c k).color≠1:=by simpa using t1
      have t1b:((x.c k).color != 1)=true:=by simpa using t1'
      by_cases hn0:0<n
      ·have N:=uU (show ¬R5 x from λr=>by have:=(r.2.1 k hlt).2.1 t1';have:=uH hc;omega);clear t1';go_wp2_with fail;go_ret;exact⟨false,rfl,⟨λf=>by simp at f,λr=>(N r).elim⟩,hx2⟩
      ·have hz:Hid (cnt x.gray k=0):=by have:=uH hc;show _=_;omega
       cases t2:((x.c k).color == 2)
       ·have S:=uU (ST ⟨λe=>absurd e t1',λ_=>uH hz,λe=>by simp [e] at t2⟩);clear t1';go_wp2_with fail;go_roundw
        case rel=>exact⟨k+1,by omega,by go_num,S,hx2⟩
        case measure=>simp [intOf];omega
       ·cases t3:(x.phase == 3)
        ·have t3b:(x.phase != 3)=true:=by simpa using t3
         have N:=uU (show ¬R5 x from λr=>by
          rcases (r.2.1 k hlt).2.2 (by simpa using t2) with m | m
          ·exact MK m
          ·simp [m.1] at t3)
         clear t1';go_wp2_with fail;go_ret;exact⟨false,rfl,⟨λf=>by simp at f,λr=>(N r).elim⟩,hx2⟩
        ·have t3b:(x.phase != 3)=false:=by simpa using t3
         by_cases t4:(k:Int)<x.hand
         ·have N:=uU (show ¬R5 x from λr=>by
           rcases (r.2.1 k hlt).2.2 (by simpa using t2) with m | m
           ·exact MK m
           ·omega)
          clear t1';go_wp2_with fail;go_ret;exact⟨false,rfl,⟨λf=>by simp at f,λr=>(N r).elim⟩,hx2⟩
         ·have S:=uU (ST ⟨λe=>absurd e t1',λ_=>uH hz,λ_=>Or.inr ⟨by simpa using t3,by omega⟩⟩);clear t1';go_wp2_with fail;go_roundw
          case rel=>exact⟨k+1,by omega,by go_num,S,hx2⟩
          case measure=>simp [intOf];omega
     ·have t1':(x.c k).color=1:=by simpa using t1
      have t1b:((x.c k).color != 1)=false:=by simp [t1']
      have t1c:((x.c k).color == 2)=false:=by simp [t1']
      have TC:=uU t1';clear t1';by_cases hn1:n=1
      ·have hn2:((n:Int) != 1)=false:=by simp [hn1]
       have S:=uU (ST ⟨λ_=>by have:=uH hc;omega,λe=>absurd TC e,λe=>by have:=uH TC;omega⟩);clear hn1;go_wp2_with fail;go_roundw
       case rel=>exact⟨k+1,by omega,by go_num,S,hx2⟩
       case measure=>simp [intOf];omega
      ·have hn2:((n:Int) != 1)=true:=by simp;omega
       have N:=uU (show ¬R5 x from λr=>by have:=(r.2.1 k hlt).1 TC;have:=uH hc;omega);clear hn1;go_wp2_with fail;go_ret;exact⟨false,rfl,⟨λf=>by simp at f,λr=>(N r).elim⟩,hx2⟩
  ·have A1:=uU (show ∀j,j<x.cells.length->eE x j from λj hj=>uH HA j (by omega));have d8:=(h.ext hbl).c8;go_wp2_with fail;clear hlt hk HA;go_loopw [102] (λi wr2=>∃l:Nat,l<=x.gray.length/\i=.int .i64 l/\(∀j (hj:j<x.gray.length),j<l->0<=x.gray[j]/\x.gray[j]<x.cells.length)/\Ext w wr2) (λi _=>x.gray.length-(intOf i).toNat)
   case atStart=>exact⟨0,Nat.zero_le _,rfl,λj hj h=>by omega,hbl⟩
   case round=>
    clear hbl d8;obtain⟨l,hl,rfl,hall,hx2⟩:=hrel;have HB:=uU hall;clear hall;by_cases hl2:l<x.gray.length
    ·obtain⟨bg,og,rfl,pg⟩:=(h.ext hx2).G l hl2;unfold yQ at pg;simp only [Nat.mul_one] at pg;have d4:=(h.ext hx2).c4;have hl0:(0:Int)<=(l:Int):=by omega
     have hl1:(l:Int)<(x.gray.length:Int):=by omega
     by_cases t1:x.gray[l]<0
     ·have N:=uU (show ¬R5 x from λr=>by have:=r.2.2 x.gray[l] (List.getElem_mem hl2);omega);go_wp2_with fail;go_ret
      first | (exact Or.inl ⟨rfl,N,hx2⟩) | (exact⟨false,rfl,⟨λf=>by simp at f,λr=>(N r).elim⟩,hx2⟩)
     ·by_cases t2:(x.cells.length:Int)<=x.gray[l]
      ·have N:=uU (show ¬R5 x from λr=>by have:=r.2.2 x.gray[l] (List.getElem_mem hl2);omega);go_wp2_with fail;go_ret
       first | (exact Or.inl ⟨rfl,N,hx2⟩) | (exact⟨false,rfl,⟨λf=>by simp at f,λr=>(N r).elim⟩,hx2⟩)
      ·have S:=uU (show ∀j (hj:j<x.gray.length),j<l+1->0<=x.gray[j]/\x.gray[j]<x.cells.length from λj hj hjl=>by
        by_cases e:j=l
        ·subst e;omega
        ·exact HB j hj (by omega))
       go_wp2_with fail;go_roundw
       case rel=>exact⟨l+1,by omega,by go_num,S,hx2⟩
       case measure=>simp [intOf];omega
    ·have Y:=uU (show R5 x from⟨G0,A1,λg hg=>by
      obtain⟨j,hj,rfl⟩:=List.getElem_of_mem hg;exact HB j hj (by omega)⟩)
     go_wp2_with fail;go_ret;exact⟨true,rfl,⟨λ_=>uH Y,λ_=>rfl⟩,hx2⟩
theorem b4w(x:Hp)(b:Nat)(w:World)(h:HAt w b x ar kr ac kc ag kg):
  Calls Tryz.prog 130 #[.pointer (some ⟨b,0,none⟩)] w λe w'=>∃r:Bool,e=.returned (.bool r)/\(r=true↔R5 x)/\Ext w w':=by
 cases q1:(x.phase == 1)
 ·cases q2:(x.phase == 2)
  ·exact b9b x b w h q1 q2
  ·exact b9a x b w h q1 q2
 ·exact b8z x b w h q1
theorem c0v(h:x.phase=0\/x.phase=4):(((x.hand == 0) && (x.sub == 0))=true↔R6 x):=by
 unfold R6;rcases h with h | h <;> simp [h]
theorem R6_1(h:x.phase=1\/x.phase=3\/x.phase=6):((x.sub == 0)=true↔R6 x):=by
 unfold R6;rcases h with h | h | h <;> simp [h]
theorem b6m(x:Hp)(b:Nat)(w:World)(h:HAt w b x ar kr ac kc ag kg)(r1:R1 x)(r5:R5 x):
  Calls Tryz.prog 131 #[.pointer (some ⟨b,0,none⟩)] w λe w'=>∃r:Bool,e=.returned (.bool r)/\(r=true↔R6 x)/\Ext w w':=by
 have c4:=h.c4;have c5:=h.c5;have c6:=h.c6;have c7:=h.c7;have c8:=h.c8;have lc:=h.lc;have lg:=h.lg;obtain⟨ph0,ph1⟩:=r1.phase;obtain⟨hh0,hh1⟩:=r1.hand;have hphase:x.phase=0\/x.phase=1\/x.phase=2\/x.phase=3\/x.phase=4\/x.phase=5\/x.phase=6:=by omega
 clear ph0 ph1;rcases hphase with hp | hp | hp | hp | hp | hp | hp
 ·have Y:=uU (c0v (x:=x) (Or.inl hp));clear r1 r5 h;cases q:(x.hand == 0)
  all_goals
   go_enter Tryz.func131,Tryz.ntmps131;go_wp2_with fail;go_ret;exact⟨_,rfl,by have:=uH Y;rw[q] at this;simpa using this,Ext.refl _⟩
 ·have Y:=uU (R6_1 (x:=x) (Or.inl hp));clear r1 r5 h;go_enter Tryz.func131,Tryz.ntmps131;go_wp2_with fail;go_ret;exact⟨_,rfl,Y,Ext.refl _⟩
 ·cases q:(x.hand == 0)
  ·have Y:=uU (show ¬R6 x from λr=>by have:=(r.2.1 hp).1;simp at q;omega);have q':(x.hand != 0)=true:=by simpa using q
   clear r1 r5 h;go_enter Tryz.func131,Tryz.ntmps131;go_wp2_with fail;go_ret;exact⟨false,rfl,⟨λf=>by simp at f,λr=>(Y r).elim⟩,Ext.refl _⟩
  ·have q':(x.hand != 0)=false:=by simpa using q
   by_cases hg:x.gray.length=0
   ·have Y:=uU (show(x.sub == 0)=true↔R6 x by
     have q2:x.hand=0:=by simpa using q
     unfold R6;simp [hp,hg,q2])
    clear r1 r5 h;go_enter Tryz.func131,Tryz.ntmps131;go_wp2_with fail;go_ret;exact⟨_,rfl,Y,Ext.refl _⟩
   ·have hg0:0<x.gray.length:=by omega
    have hgr:=r5.2.2 x.gray[0] (List.getElem_mem hg0);obtain⟨i,hi⟩:=Int.eq_ofNat_of_zero_le hgr.1;have eg:x.g0=i:=by simp [Hp.g0,hg0,hi]
    have Y:=uU (show decide (x.sub<=((x.c i).prs.length:Int))=true↔R6 x by
     have q2:x.hand=0:=by simpa using q
     have hg2:x.gray≠[]:=λe=>by simp [e] at hg
     unfold R6;rw[eg];simp [hp,hg2,q2])
    obtain⟨bg,og,rfl,pg⟩:=h.G 0 hg0;unfold yQ at pg;rw[hi] at pg;simp only [Nat.zero_mul,Nat.add_zero] at pg;obtain⟨b',o,ap,kp,rfl,p0,p1,p2,p3,p4,p5,p6,p7,lp,P⟩:=h.cell i (by omega);have hg3:((x.gray.length:Int) == 0)=false:=beq_eq_false_iff_ne.2 (by omega);have hg4:(0:Int)<(x.gray.length:Int):=by omega
    have hi0:(0:Int)<=(i:Int):=by omega
    have hi1:(i:Int)<(x.cells.length:Int):=by omega
    clear r1 r5 h P hgr hi eg hg;go_enter Tryz.func131,Tryz.ntmps131;go_wp2_with fail;go_quiet (fail);go_wp2_with fail;go_ret;exact⟨_,rfl,Y,(Ext.refl _).drewN _⟩
 ·have Y:=uU (R6_1 (x:=x) (Or.inr (Or.inl hp)));clear r1 r5 h;go_enter Tryz.func131,Tryz.ntmps131;go_wp2_with fail;go_ret;exact⟨_,rfl,Y,Ext.refl _⟩
 ·have Y:=uU (c0v (x:=x) (Or.inr hp));clear r1 r5 h;cases q:(x.hand == 0)
  all_goals
   go_enter Tryz.func131,Tryz.ntmps131;go_wp2_with fail;go_ret;exact⟨_,rfl,by have:=uH Y;rw[q] at this;simpa using this,Ext.refl _⟩
 ·obtain⟨i,hi⟩:=Int.eq_ofNat_of_zero_le hh0;cases q:(x.hand == (x.cells.length:Int))
  ·have hi2:i<x.cells.length:=by simp at q;omega
   have q2:((i:Int) == (x.cells.length:Int))=false:=by simp;omega
   have hu:=a4v x b i w h (by omega) (by omega);have HU:=uU (λn=>a4v x b i (w.drewN n) (h.ext ((Ext.refl w).drewN n)) (by omega) (by omega));rw[Int.toNat_natCast] at HU;obtain⟨b',o,ap,kp,rfl,p0,p1,p2,p3,p4,p5,p6,p7,lp,P⟩:=h.cell i hi2;rw[hi] at c6;have hi0:(0:Int)<=(i:Int):=by omega
   have hi1:(i:Int)<(x.cells.length:Int):=by omega
   cases qu:a7j x i
   ·have Y:=uU (show(x.sub == 0)=true↔R6 x by
     have q3:¬(x.c i).st=1:=by simpa [a7j] using qu
     unfold R6;simp [hp,hi,q3])
    clear r1 r5 h P hu q hh0 hh1 hi;go_enter Tryz.func131,Tryz.ntmps131;go_wp2_with fail;go_quiet ((go_at_call 203;exact Calls.quiet_of_same (HU _)));go_wp2_with fail;go_ret;exact⟨_,rfl,Y,(Ext.refl _).drewN _⟩
   ·have Y:=uU (show decide (x.sub<=((x.c i).prs.length:Int))=true↔R6 x by
     have q3:(x.c i).st=1:=by simpa [a7j] using qu
     have q4:¬(i:Int)=(x.cells.length:Int):=by omega
     unfold R6;simp [hp,hi,q3,q4])
    clear r1 r5 h P hu q hh0 hh1 hi;go_enter Tryz.func131,Tryz.ntmps131;go_wp2_with fail;go_quiet ((go_at_call 203;exact Calls.quiet_of_same (HU _)));go_wp2_with fail;go_quiet (fail);go_wp2_with fail;go_ret;exact⟨_,rfl,Y,((Ext.refl _).drewN _).drewN _⟩
  ·have Y:=uU (show(x.sub == 0)=true↔R6 x by
     have q3:x.hand=x.cells.length:=by simpa using q
     unfold R6;simp [hp,q3])
   have q4:x.hand=x.cells.length:=by simpa using q
   rw[q4] at c6;have q5:((x.cells.length:Int) == (x.cells.length:Int))=true:=by simp
   clear r1 r5 h q q4 hh0 hh1 hi;go_enter Tryz.func131,Tryz.ntmps131;go_wp2_with fail;go_quiet (fail);go_wp2_with fail;go_ret;exact⟨_,rfl,Y,(Ext.refl _).drewN _⟩
 ·have Y:=uU (R6_1 (x:=x) (Or.inr (Or.inr hp)));clear r1 r5 h;go_enter Tryz.func131,Tryz.ntmps131;go_wp2_with fail;go_ret;exact⟨_,rfl,Y,Ext.refl _⟩
end Go.Proofs.YtddkhnclmeikfaaGreat
