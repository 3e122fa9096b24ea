import Derived.Test.YtddkhnclmeikfaaGreatSpecA2
set_option maxRecDepth 100000
set_option maxHeartbeats 1000000
namespace Go.Proofs.YtddkhnclmeikfaaGreat
open Go.RowKit
attribute [local go_sem ↓] Go.wp_at_zero Go.wp_at_succ
variable{ar ac ag:Option Addr}{kr kc kg:Nat}
theorem c1j(x:Hp)(b:Nat)(w:World)(h:HAt w b x ar kr ac kc ag kg)(q0:uK x.room 1 4000=true)(q1:((x.regs.length:Int) != 16)=false)(q2:decide (2*x.room<(x.cells.length:Int))=false)(q3:decide (x.cells.length<x.gray.length)=false)(q4:uK x.born 0 1000000000=true)(q5:uK x.rounds 0 1000000000=true)(q6:uK x.forced 0 1000000000=true)(q7:uK x.per 0 64=true)(q8:uK x.start 0 4000=true)(q9:uK x.phase 0 6=true)(q10:uK x.hand 0 (x.cells.length:Int)=false):
  Calls Tryz.prog 126 #[.pointer (some ⟨b,0,none⟩)] w λe w'=>e=.returned (.bool false)/\Ext w w':=by
 obtain⟨c0,c1,c2,c3,c4,c5,c6,c7,c8,c9,c10,c11,c12,lr,lc,lg,R,C,G⟩:=h;clear R C G;have p0:=dC q0;go_enter Tryz.func126,Tryz.ntmps126;go_wp2_with fail;go_quiet ((go_at_call 60;exact Calls.quiet_of_same (dX _ _ _ _)));go_wp2_with (go_at_call 60;refine(dX _ _ _ _).mono ?_;rintro e w' ⟨rfl,rfl⟩);refine wp_region_quiet_lit (by kernel_rfl) (by kernel_rfl) ?_
 iterate 39 go_big_quiet_step ((go_at_call 60;first | (refine a3i (dJ _ _ _ true ?_ _);assumption) | (refine a3i (dJ _ _ _ false ?_ _);assumption)))
 refine wpQuiet_nil ?_;intro w9 hw9;obtain⟨nq9,hw9⟩:=hw9;have hx:Ext w w9:=by rw[hw9];exact Ext.drewN (Ext.drewN (Ext.refl w) _) _
 clear hw9 c0 c1 c2 c3 c4 c5 c6 c7 c8 c9 c10 c11 c12 q0 q1 q2 q3 q4 q5 q6 q7 q8 q9;go_wp2_with fail;go_ret;exact⟨rfl,hx⟩
theorem c1k(x:Hp)(b:Nat)(w:World)(h:HAt w b x ar kr ac kc ag kg)(q0:uK x.room 1 4000=true)(q1:((x.regs.length:Int) != 16)=false)(q2:decide (2*x.room<(x.cells.length:Int))=false)(q3:decide (x.cells.length<x.gray.length)=false)(q4:uK x.born 0 1000000000=true)(q5:uK x.rounds 0 1000000000=true)(q6:uK x.forced 0 1000000000=true)(q7:uK x.per 0 64=true)(q8:uK x.start 0 4000=true)(q9:uK x.phase 0 6=true)(q10:uK x.hand 0 (x.cells.length:Int)=true)(q11:uK x.sub 0 200=false):
  Calls Tryz.prog 126 #[.pointer (some ⟨b,0,none⟩)] w λe w'=>e=.returned (.bool false)/\Ext w w':=by
 obtain⟨c0,c1,c2,c3,c4,c5,c6,c7,c8,c9,c10,c11,c12,lr,lc,lg,R,C,G⟩:=h;clear R C G;have p0:=dC q0;go_enter Tryz.func126,Tryz.ntmps126;go_wp2_with fail;go_quiet ((go_at_call 60;exact Calls.quiet_of_same (dX _ _ _ _)));go_wp2_with (go_at_call 60;refine(dX _ _ _ _).mono ?_;rintro e w' ⟨rfl,rfl⟩);refine wp_region_quiet_lit (by kernel_rfl) (by kernel_rfl) ?_
 iterate 39 go_big_quiet_step ((go_at_call 60;first | (refine a3i (dJ _ _ _ true ?_ _);assumption) | (refine a3i (dJ _ _ _ false ?_ _);assumption)))
 refine wpQuiet_nil ?_;intro w9 hw9;obtain⟨nq9,hw9⟩:=hw9;have hx:Ext w w9:=by rw[hw9];exact Ext.drewN (Ext.drewN (Ext.refl w) _) _
 clear hw9 c0 c1 c2 c3 c4 c5 c6 c7 c8 c9 c10 c11 c12 q0 q1 q2 q3 q4 q5 q6 q7 q8 q9 q10;go_wp2_with fail;go_ret;exact⟨rfl,hx⟩
theorem c1m(x:Hp)(b:Nat)(w:World)(h:HAt w b x ar kr ac kc ag kg)(q0:uK x.room 1 4000=true)(q1:((x.regs.length:Int) != 16)=false)(q2:decide (2*x.room<(x.cells.length:Int))=false)(q3:decide (x.cells.length<x.gray.length)=false)(q4:uK x.born 0 1000000000=true)(q5:uK x.rounds 0 1000000000=true)(q6:uK x.forced 0 1000000000=true)(q7:uK x.per 0 64=true)(q8:uK x.start 0 4000=true)(q9:uK x.phase 0 6=true)(q10:uK x.hand 0 (x.cells.length:Int)=true)(q11:uK x.sub 0 200=true):
  Calls Tryz.prog 126 #[.pointer (some ⟨b,0,none⟩)] w λe w'=>e=.returned (.bool true)/\Ext w w':=by
 obtain⟨c0,c1,c2,c3,c4,c5,c6,c7,c8,c9,c10,c11,c12,lr,lc,lg,R,C,G⟩:=h;clear R C G;have p0:=dC q0;go_enter Tryz.func126,Tryz.ntmps126;go_wp2_with fail;go_quiet ((go_at_call 60;exact Calls.quiet_of_same (dX _ _ _ _)));go_wp2_with (go_at_call 60;refine(dX _ _ _ _).mono ?_;rintro e w' ⟨rfl,rfl⟩);refine wp_region_quiet_lit (by kernel_rfl) (by kernel_rfl) ?_
 iterate 39 go_big_quiet_step ((go_at_call 60;first | (refine a3i (dJ _ _ _ true ?_ _);assumption) | (refine a3i (dJ _ _ _ false ?_ _);assumption)))
 refine wpQuiet_nil ?_;intro w9 hw9;obtain⟨nq9,hw9⟩:=hw9;have hx:Ext w w9:=by rw[hw9];exact Ext.drewN (Ext.drewN (Ext.refl w) _) _
 clear hw9 c0 c1 c2 c3 c4 c5 c6 c7 c8 c9 c10 c11 c12 q0 q1 q2 q3 q4 q5 q6 q7 q8 q9 q10;go_wp2_with fail;go_ret;exact⟨rfl,hx⟩
theorem b8i(x:Hp)(b:Nat)(w:World)(h:HAt w b x ar kr ac kc ag kg):
  Calls Tryz.prog 126 #[.pointer (some ⟨b,0,none⟩)] w λe w'=>∃r:Bool,e=.returned (.bool r)/\(r=true↔R1 x)/\Ext w w':=by
 cases q0:uK x.room 1 4000
 ·exact(c4d x b w h q0).mono λe w' ⟨he,hx⟩=>⟨false,he,⟨λf=>by simp at f,λr=>False.elim (a0d q0 r.room)⟩,hx⟩
 ·
  cases q1:((x.regs.length:Int) != 16);rotate_left
  ·exact(c4e x b w h q0 q1).mono λe w' ⟨he,hx⟩=>⟨false,he,⟨λf=>by simp at f,λr=>False.elim ((by have:=r.regs;simp at q1;omega))⟩,hx⟩
  ·
   cases q2:decide (2*x.room<(x.cells.length:Int));rotate_left
   ·exact(c4f x b w h q0 q1 q2).mono λe w' ⟨he,hx⟩=>⟨false,he,⟨λf=>by simp at f,λr=>False.elim ((by have:=r.cells;simp at q2;omega))⟩,hx⟩
   ·
    cases q3:decide (x.cells.length<x.gray.length);rotate_left
    ·exact(c4g x b w h q0 q1 q2 q3).mono λe w' ⟨he,hx⟩=>⟨false,he,⟨λf=>by simp at f,λr=>False.elim ((by have:=r.gray;simp at q3;omega))⟩,hx⟩
    ·
     cases q4:uK x.born 0 1000000000
     ·exact(c4h x b w h q0 q1 q2 q3 q4).mono λe w' ⟨he,hx⟩=>⟨false,he,⟨λf=>by simp at f,λr=>False.elim (a0d q4 r.born)⟩,hx⟩
     ·
      cases q5:uK x.rounds 0 1000000000
      ·exact(c4i x b w h q0 q1 q2 q3 q4 q5).mono λe w' ⟨he,hx⟩=>⟨false,he,⟨λf=>by simp at f,λr=>False.elim (a0d q5 r.rounds)⟩,hx⟩
      ·
       cases q6:uK x.forced 0 1000000000
       ·exact(c4j x b w h q0 q1 q2 q3 q4 q5 q6).mono λe w' ⟨he,hx⟩=>⟨false,he,⟨λf=>by simp at f,λr=>False.elim (a0d q6 r.forced)⟩,hx⟩
       ·
        cases q7:uK x.per 0 64
        ·exact(c5a x b w h q0 q1 q2 q3 q4 q5 q6 q7).mono λe w' ⟨he,hx⟩=>⟨false,he,⟨λf=>by simp at f,λr=>False.elim (a0d q7 r.per)⟩,hx⟩
        ·
         cases q8:uK x.start 0 4000
         ·exact(c5b x b w h q0 q1 q2 q3 q4 q5 q6 q7 q8).mono λe w' ⟨he,hx⟩=>⟨false,he,⟨λf=>by simp at f,λr=>False.elim (a0d q8 r.start)⟩,hx⟩
         ·
          cases q9:uK x.phase 0 6
          ·exact(c5c x b w h q0 q1 q2 q3 q4 q5 q6 q7 q8 q9).mono λe w' ⟨he,hx⟩=>⟨false,he,⟨λf=>by simp at f,λr=>False.elim (a0d q9 r.phase)⟩,hx⟩
          ·
           cases q10:uK x.hand 0 (x.cells.length:Int)
           ·exact(c1j x b w h q0 q1 q2 q3 q4 q5 q6 q7 q8 q9 q10).mono λe w' ⟨he,hx⟩=>⟨false,he,⟨λf=>by simp at f,λr=>False.elim (a0d q10 r.hand)⟩,hx⟩
           ·
            cases q11:uK x.sub 0 200
            ·exact(c1k x b w h q0 q1 q2 q3 q4 q5 q6 q7 q8 q9 q10 q11).mono λe w' ⟨he,hx⟩=>⟨false,he,⟨λf=>by simp at f,λr=>False.elim (a0d q11 r.sub)⟩,hx⟩
            ·
             refine(c1m x b w h q0 q1 q2 q3 q4 q5 q6 q7 q8 q9 q10 q11).mono λe w' ⟨he,hx⟩=>⟨true,he,⟨λ_=>?_,λ_=>rfl⟩,hx⟩
             refine⟨dC q0,by simp at q1;omega,by simp at q2;omega,by simp at q3;omega,dC q4,dC q5,dC q6,dC q7,dC q8,dC q9,dC q10,dC q11⟩
def b3f(c d:Cl):Prop:=c.st=d.st/\c.born=d.born/\c.to=d.to
theorem b8j(x:Hp)(b:Nat)(w:World)(h:HAt w b x ar kr ac kc ag kg):
  Calls Tryz.prog 204 #[.pointer (some ⟨b,0,none⟩)] w λe w'=>∃r:Bool,e=.returned (.bool r)/\(r=true↔b7q x)/\Ext w w':=by
 have c4:=h.c4;have lc:=h.lc;go_enter Tryz.func204,Tryz.ntmps204;go_wp2_with fail;go_loopw [12] (λi wr=>∃k:Nat,k<=x.cells.length/\i=.int .i64 k/\(∀j,j<k->(x.c j).st≠0->∀l,l<j->¬b3f (x.c l) (x.c j))/\Ext w wr) (λi _=>x.cells.length-(intOf i).toNat)
 case atStart=>exact⟨0,Nat.zero_le _,rfl,λj h=>by omega,Ext.refl _⟩
 case round=>
  obtain⟨k,hk,rfl,hall,hbl⟩:=hrel;have HA:=uU hall;clear hall;by_cases hlt:k<x.cells.length
  ·obtain⟨b',o,ap,kp,rfl,p0,p1,p2,p3,p4,p5,p6,p7,lp,P⟩:=(h.ext hbl).cell k hlt;clear P;have hb':b'<wr.heap.size:=uL p0;have hk0:(0:Int)<=(k:Int):=by omega
   have hk1:(k:Int)<(x.cells.length:Int):=by omega
   have hbl1:=hbl.alloc (.cells #[.int .i64 (x.c k).st,.int .i64 (x.c k).kind,.int .i64 (x.c k).weak,.int .i64 (x.c k).last,.int .i64 (x.c k).born,.int .i64 (x.c k).color,.int .i64 (x.c k).to,.slice ap (x.c k).prs.length kp] 62)
   have step:((x.c k).st≠0->∀l,l<k->¬b3f (x.c l) (x.c k))->Hid (∀j,j<k+1->(x.c j).st≠0->∀l,l<j->¬b3f (x.c l) (x.c j)):=λhn j hj=>by
    by_cases e:j=k
    ·subst e;exact hn
    ·exact HA j (by omega)
   have ST:=uU step;clear step;cases qs:((x.c k).st == 0)
   ·have qs':(x.c k).st≠0:=by simpa using qs
    have QS:=uU qs';clear qs';go_wp2_with fail;obtain⟨WO,hWO⟩:∃W:World,W=wr:=⟨_,rfl⟩;subst hWO;go_loopw [5] (λi wr2=>∃l:Nat,l<=k/\i=.int .i64 l/\(∀j,j<l->¬b3f (x.c j) (x.c k))/\Ext w wr2/\Ext (WO.alloc (.cells #[.int .i64 (x.c k).st,.int .i64 (x.c k).kind,.int .i64 (x.c k).weak,.int .i64 (x.c k).last,.int .i64 (x.c k).born,.int .i64 (x.c k).color,.int .i64 (x.c k).to,.slice ap (x.c k).prs.length kp] 62)) wr2) (λi _=>k-(intOf i).toNat)
    case atStart=>exact⟨0,Nat.zero_le _,rfl,λj h=>by omega,hbl1,Ext.refl _⟩
    case round=>
     obtain⟨l,hl,rfl,hall,hx2,hy2⟩:=hrel;have HB:=uU hall;clear hall;have f0:=hy2.keep (b:=WO.heap.size) (o:=0) (v:=.int .i64 (x.c k).st) (by simp [go_sem]);have f4:=hy2.keep (b:=WO.heap.size) (o:=4) (v:=.int .i64 (x.c k).born) (by simp [go_sem]);have f6:=hy2.keep (b:=WO.heap.size) (o:=6) (v:=.int .i64 (x.c k).to) (by simp [go_sem]);have zz:WO.heap.size<wr.heap.size:=uL f0;by_cases hl2:l<k
     ·obtain⟨b2,o2,ap2,kp2,e2,q0,q1,q2,q3,q4,q5,q6,q7,lp2,P2⟩:=(h.ext hx2).cell l (by omega);cases e2;clear P2;have d4:=(h.ext hx2).c4;have hb2:b'<wr.heap.size:=uL q0;have hb3:b<wr.heap.size:=uL d4;clear p0 p1 p2 p3 p4 p5 p6 p7;have hl0:(0:Int)<=(l:Int):=by omega
      have hl1:(l:Int)<(x.cells.length:Int):=by omega
      have hl3:(l:Int)<(k:Int):=by omega
      have z2:=hy2.size;cases t1:((x.c l).st == (x.c k).st)
      ·have S:=uU (show ∀j,j<l+1->¬b3f (x.c j) (x.c k) from λj hj=>by
        by_cases e:j=l
        ·subst e;intro hs;have:=hs.1;simp at t1;exact t1 this
        ·exact HB j (by omega))
       go_wp2_with fail;go_roundw
       case rel=>exact⟨l+1,by omega,by go_num,S,hx2.alloc _,hy2.alloc _⟩
       case measure=>simp [intOf];omega
      ·cases t2:((x.c l).born == (x.c k).born)
       ·have S:=uU (show ∀j,j<l+1->¬b3f (x.c j) (x.c k) from λj hj=>by
         by_cases e:j=l
         ·subst e;intro hs;have:=hs.2.1;simp at t2;exact t2 this
         ·exact HB j (by omega))
        go_wp2_with fail;go_roundw
        case rel=>exact⟨l+1,by omega,by go_num,S,hx2.alloc _,hy2.alloc _⟩
        case measure=>simp [intOf];omega
       ·cases t3:((x.c l).to == (x.c k).to)
        ·have S:=uU (show ∀j,j<l+1->¬b3f (x.c j) (x.c k) from λj hj=>by
          by_cases e:j=l
          ·subst e;intro hs;have:=hs.2.2;simp at t3;exact t3 this
          ·exact HB j (by omega))
         go_wp2_with fail;go_roundw
         case rel=>exact⟨l+1,by omega,by go_num,S,hx2.alloc _,hy2.alloc _⟩
         case measure=>simp [intOf];omega
        ·have N:=uU (show ¬b7q x from λr=>r k hlt QS l hl2 ⟨by simpa using t1,by simpa using t2,by simpa using t3⟩);go_wp2_with fail;go_ret;exact⟨false,rfl,⟨λf=>by simp at f,λr=>(N r).elim⟩,hx2.alloc _⟩
     ·have S:=uH ST (λ_ l' hl'=>uH HB l' (by omega));go_wp2_with fail;go_roundw
      case rel=>exact⟨k+1,by omega,by go_num,S,hx2⟩
      case measure=>simp [intOf];omega
   ·have S:=uH ST (λhn=>absurd (by simpa using qs) hn);go_wp2_with fail;go_roundw
    case rel=>exact⟨k+1,by omega,by go_num,S,hbl1⟩
    case measure=>simp [intOf];omega
  ·have Y:=uU (show b7q x from λi hi hs l hl hc=>uH HA i (by omega) hs l hl hc);go_wp2_with fail;go_ret;exact⟨true,rfl,⟨λ_=>uH Y,λ_=>rfl⟩,hbl⟩
end Go.Proofs.YtddkhnclmeikfaaGreat
