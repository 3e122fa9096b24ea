import Derived.Test.YtddkhnclmeikfaaGreatSpecA2
set_option maxRecDepth 100000
set_option maxHeartbeats 1000000
namespace Go.Proofs.YtddkhnclmeikfaaGreat
open Go.RowKit
attribute [local go_sem ↓] Go.wp_at_zero Go.wp_at_succ
variable{ar ac ag:Option Addr}{kr kc kg:Nat}
theorem c0r(x:Hp)(b:Nat)(w:World)(h:HAt w b x ar kr ac kc ag kg)(q0:hD x.M 1 4000=true)(q1:((x.B.length:Int) != 16)=false)(q2:decide (2*x.M<(x.A.length:Int))=false)(q3:decide (x.A.length<x.D.length)=false)(q4:hD x.born 0 1000000000=true)(q5:hD x.Q 0 1000000000=true)(q6:hD x.S 0 1000000000=true)(q7:hD x.per 0 64=true)(q8:hD x.V 0 4000=true)(q9:hD x.E 0 6=true)(q10:hD x.I 0 (x.A.length:Int)=false):
  Calls Tryz.prog 126 #[.pointer (some ⟨b,0,none⟩)] w λe w'=>e=.returned (.bool false)/\Ext w w':=by
 obtain⟨c0,c1,c2,c3,c4,c5,c6,c7,c8,c9,c10,c11,c12,lr,lc,lg,R,C,G⟩:=h;clear R C G;have p0:=cK q0;go_enter Tryz.func126,Tryz.ntmps126;go_wp2_with fail;go_quiet ((go_at_call 60;exact Calls.quiet_of_same (dK _ _ _ _)));go_wp2_with (go_at_call 60;refine(dK _ _ _ _).mono ?_;rintro e w' ⟨rfl,rfl⟩);refine wp_region_quiet_lit (by kernel_rfl) (by kernel_rfl) ?_
 iterate 39 go_big_quiet_step ((go_at_call 60;first | (refine a3c (eC _ _ _ true ?_ _);assumption) | (refine a3c (eC _ _ _ false ?_ _);assumption)))
 refine wpQuiet_nil ?_;intro w9 hw9;obtain⟨nq9,hw9⟩:=hw9;have hx:Ext w w9:=by rw[hw9];exact Ext.drewN (Ext.drewN (Ext.refl w) _) _
 clear hw9 c0 c1 c2 c3 c4 c5 c6 c7 c8 c9 c10 c11 c12 q0 q1 q2 q3 q4 q5 q6 q7 q8 q9;go_wp2_with fail;go_ret;exact⟨rfl,hx⟩
theorem c0s(x:Hp)(b:Nat)(w:World)(h:HAt w b x ar kr ac kc ag kg)(q0:hD x.M 1 4000=true)(q1:((x.B.length:Int) != 16)=false)(q2:decide (2*x.M<(x.A.length:Int))=false)(q3:decide (x.A.length<x.D.length)=false)(q4:hD x.born 0 1000000000=true)(q5:hD x.Q 0 1000000000=true)(q6:hD x.S 0 1000000000=true)(q7:hD x.per 0 64=true)(q8:hD x.V 0 4000=true)(q9:hD x.E 0 6=true)(q10:hD x.I 0 (x.A.length:Int)=true)(q11:hD x.sub 0 200=false):
  Calls Tryz.prog 126 #[.pointer (some ⟨b,0,none⟩)] w λe w'=>e=.returned (.bool false)/\Ext w w':=by
 obtain⟨c0,c1,c2,c3,c4,c5,c6,c7,c8,c9,c10,c11,c12,lr,lc,lg,R,C,G⟩:=h;clear R C G;have p0:=cK q0;go_enter Tryz.func126,Tryz.ntmps126;go_wp2_with fail;go_quiet ((go_at_call 60;exact Calls.quiet_of_same (dK _ _ _ _)));go_wp2_with (go_at_call 60;refine(dK _ _ _ _).mono ?_;rintro e w' ⟨rfl,rfl⟩);refine wp_region_quiet_lit (by kernel_rfl) (by kernel_rfl) ?_
 iterate 39 go_big_quiet_step ((go_at_call 60;first | (refine a3c (eC _ _ _ true ?_ _);assumption) | (refine a3c (eC _ _ _ false ?_ _);assumption)))
 refine wpQuiet_nil ?_;intro w9 hw9;obtain⟨nq9,hw9⟩:=hw9;have hx:Ext w w9:=by rw[hw9];exact Ext.drewN (Ext.drewN (Ext.refl w) _) _
 clear hw9 c0 c1 c2 c3 c4 c5 c6 c7 c8 c9 c10 c11 c12 q0 q1 q2 q3 q4 q5 q6 q7 q8 q9 q10;go_wp2_with fail;go_ret;exact⟨rfl,hx⟩
theorem c0t(x:Hp)(b:Nat)(w:World)(h:HAt w b x ar kr ac kc ag kg)(q0:hD x.M 1 4000=true)(q1:((x.B.length:Int) != 16)=false)(q2:decide (2*x.M<(x.A.length:Int))=false)(q3:decide (x.A.length<x.D.length)=false)(q4:hD x.born 0 1000000000=true)(q5:hD x.Q 0 1000000000=true)(q6:hD x.S 0 1000000000=true)(q7:hD x.per 0 64=true)(q8:hD x.V 0 4000=true)(q9:hD x.E 0 6=true)(q10:hD x.I 0 (x.A.length:Int)=true)(q11:hD x.sub 0 200=true):
  Calls Tryz.prog 126 #[.pointer (some ⟨b,0,none⟩)] w λe w'=>e=.returned (.bool true)/\Ext w w':=by
 obtain⟨c0,c1,c2,c3,c4,c5,c6,c7,c8,c9,c10,c11,c12,lr,lc,lg,R,C,G⟩:=h;clear R C G;have p0:=cK q0;go_enter Tryz.func126,Tryz.ntmps126;go_wp2_with fail;go_quiet ((go_at_call 60;exact Calls.quiet_of_same (dK _ _ _ _)));go_wp2_with (go_at_call 60;refine(dK _ _ _ _).mono ?_;rintro e w' ⟨rfl,rfl⟩);refine wp_region_quiet_lit (by kernel_rfl) (by kernel_rfl) ?_
 iterate 39 go_big_quiet_step ((go_at_call 60;first | (refine a3c (eC _ _ _ true ?_ _);assumption) | (refine a3c (eC _ _ _ false ?_ _);assumption)))
 refine wpQuiet_nil ?_;intro w9 hw9;obtain⟨nq9,hw9⟩:=hw9;have hx:Ext w w9:=by rw[hw9];exact Ext.drewN (Ext.drewN (Ext.refl w) _) _
 clear hw9 c0 c1 c2 c3 c4 c5 c6 c7 c8 c9 c10 c11 c12 q0 q1 q2 q3 q4 q5 q6 q7 q8 q9 q10;go_wp2_with fail;go_ret;exact⟨rfl,hx⟩
theorem b7s(x:Hp)(b:Nat)(w:World)(h:HAt w b x ar kr ac kc ag kg):
  Calls Tryz.prog 126 #[.pointer (some ⟨b,0,none⟩)] w λe w'=>∃r:Bool,e=.returned (.bool r)/\(r=true↔R1 x)/\Ext w w':=by
 cases q0:hD x.M 1 4000
 ·exact(c3o x b w h q0).mono λe w' ⟨he,hx⟩=>⟨false,he,⟨λf=>by simp at f,λr=>False.elim (a0d q0 r.M)⟩,hx⟩
 ·
  cases q1:((x.B.length:Int) != 16);rotate_left
  ·exact(c3p x b w h q0 q1).mono λe w' ⟨he,hx⟩=>⟨false,he,⟨λf=>by simp at f,λr=>False.elim ((by have:=r.B;simp at q1;omega))⟩,hx⟩
  ·
   cases q2:decide (2*x.M<(x.A.length:Int));rotate_left
   ·exact(c3q x b w h q0 q1 q2).mono λe w' ⟨he,hx⟩=>⟨false,he,⟨λf=>by simp at f,λr=>False.elim ((by have:=r.A;simp at q2;omega))⟩,hx⟩
   ·
    cases q3:decide (x.A.length<x.D.length);rotate_left
    ·exact(c3r x b w h q0 q1 q2 q3).mono λe w' ⟨he,hx⟩=>⟨false,he,⟨λf=>by simp at f,λr=>False.elim ((by have:=r.D;simp at q3;omega))⟩,hx⟩
    ·
     cases q4:hD x.born 0 1000000000
     ·exact(c3s x b w h q0 q1 q2 q3 q4).mono λe w' ⟨he,hx⟩=>⟨false,he,⟨λf=>by simp at f,λr=>False.elim (a0d q4 r.born)⟩,hx⟩
     ·
      cases q5:hD x.Q 0 1000000000
      ·exact(c3t x b w h q0 q1 q2 q3 q4 q5).mono λe w' ⟨he,hx⟩=>⟨false,he,⟨λf=>by simp at f,λr=>False.elim (a0d q5 r.Q)⟩,hx⟩
      ·
       cases q6:hD x.S 0 1000000000
       ·exact(c3u x b w h q0 q1 q2 q3 q4 q5 q6).mono λe w' ⟨he,hx⟩=>⟨false,he,⟨λf=>by simp at f,λr=>False.elim (a0d q6 r.S)⟩,hx⟩
       ·
        cases q7:hD x.per 0 64
        ·exact(c4b x b w h q0 q1 q2 q3 q4 q5 q6 q7).mono λe w' ⟨he,hx⟩=>⟨false,he,⟨λf=>by simp at f,λr=>False.elim (a0d q7 r.per)⟩,hx⟩
        ·
         cases q8:hD x.V 0 4000
         ·exact(c4c x b w h q0 q1 q2 q3 q4 q5 q6 q7 q8).mono λe w' ⟨he,hx⟩=>⟨false,he,⟨λf=>by simp at f,λr=>False.elim (a0d q8 r.V)⟩,hx⟩
         ·
          cases q9:hD x.E 0 6
          ·exact(c4d x b w h q0 q1 q2 q3 q4 q5 q6 q7 q8 q9).mono λe w' ⟨he,hx⟩=>⟨false,he,⟨λf=>by simp at f,λr=>False.elim (a0d q9 r.E)⟩,hx⟩
          ·
           cases q10:hD x.I 0 (x.A.length:Int)
           ·exact(c0r x b w h q0 q1 q2 q3 q4 q5 q6 q7 q8 q9 q10).mono λe w' ⟨he,hx⟩=>⟨false,he,⟨λf=>by simp at f,λr=>False.elim (a0d q10 r.I)⟩,hx⟩
           ·
            cases q11:hD x.sub 0 200
            ·exact(c0s x b w h q0 q1 q2 q3 q4 q5 q6 q7 q8 q9 q10 q11).mono λe w' ⟨he,hx⟩=>⟨false,he,⟨λf=>by simp at f,λr=>False.elim (a0d q11 r.sub)⟩,hx⟩
            ·
             refine(c0t x b w h q0 q1 q2 q3 q4 q5 q6 q7 q8 q9 q10 q11).mono λe w' ⟨he,hx⟩=>⟨true,he,⟨λ_=>?_,λ_=>rfl⟩,hx⟩
             refine⟨cK q0,by simp at q1;omega,by simp at q2;omega,by simp at q3;omega,cK q4,cK q5,cK q6,cK q7,cK q8,cK q9,cK q10,cK q11⟩
def b2c(c d:Cl):Prop:=c.st=d.st/\c.born=d.born/\c.to=d.to
theorem b7t(x:Hp)(b:Nat)(w:World)(h:HAt w b x ar kr ac kc ag kg):
  Calls Tryz.prog 204 #[.pointer (some ⟨b,0,none⟩)] w λe w'=>∃r:Bool,e=.returned (.bool r)/\(r=true↔b7m x)/\Ext w w':=by
 have c4:=h.c4;have lc:=h.lc;go_enter Tryz.func204,Tryz.ntmps204;go_wp2_with fail;go_loopw [12] (λi wr=>∃k:Nat,k<=x.A.length/\i=.int .i64 k/\(∀j,j<k->(x.c j).st≠0->∀l,l<j->¬b2c (x.c l) (x.c j))/\Ext w wr) (λi _=>x.A.length-(intOf i).toNat)
 case atStart=>exact⟨0,Nat.zero_le _,rfl,λj h=>by omega,Ext.refl _⟩
 case round=>
  obtain⟨k,hk,rfl,hall,hbl⟩:=hrel;have HA:=uU hall;clear hall;by_cases hlt:k<x.A.length
  ·obtain⟨b',o,ap,kp,rfl,p0,p1,p2,p3,p4,p5,p6,p7,lp,P⟩:=(h.ext hbl).cell k hlt;clear P;have hb':b'<wr.heap.size:=uL p0;have hk0:(0:Int)<=(k:Int):=by omega
   have hk1:(k:Int)<(x.A.length:Int):=by omega
   have hbl1:=hbl.alloc (.cells #[.int .i64 (x.c k).st,.int .i64 (x.c k).kind,.int .i64 (x.c k).T,.int .i64 (x.c k).U,.int .i64 (x.c k).born,.int .i64 (x.c k).J,.int .i64 (x.c k).to,.slice ap (x.c k).F.length kp] 62)
   have step:((x.c k).st≠0->∀l,l<k->¬b2c (x.c l) (x.c k))->Hid (∀j,j<k+1->(x.c j).st≠0->∀l,l<j->¬b2c (x.c l) (x.c j)):=λhn j hj=>by
    by_cases e:j=k
    ·subst e;exact hn
    ·exact HA j (by omega)
   have ST:=uU step;clear step;cases qs:((x.c k).st == 0)
   ·have qs':(x.c k).st≠0:=by simpa using qs
    have QS:=uU qs';clear qs';go_wp2_with fail;obtain⟨WO,hWO⟩:∃W:World,W=wr:=⟨_,rfl⟩;subst hWO;go_loopw [5] (λi wr2=>∃l:Nat,l<=k/\i=.int .i64 l/\(∀j,j<l->¬b2c (x.c j) (x.c k))/\Ext w wr2/\Ext (WO.alloc (.cells #[.int .i64 (x.c k).st,.int .i64 (x.c k).kind,.int .i64 (x.c k).T,.int .i64 (x.c k).U,.int .i64 (x.c k).born,.int .i64 (x.c k).J,.int .i64 (x.c k).to,.slice ap (x.c k).F.length kp] 62)) wr2) (λi _=>k-(intOf i).toNat)
    case atStart=>exact⟨0,Nat.zero_le _,rfl,λj h=>by omega,hbl1,Ext.refl _⟩
    case round=>
     obtain⟨l,hl,rfl,hall,hx2,hy2⟩:=hrel;have HB:=uU hall;clear hall;have f0:=hy2.keep (b:=WO.heap.size) (o:=0) (v:=.int .i64 (x.c k).st) (by simp [go_sem]);have f4:=hy2.keep (b:=WO.heap.size) (o:=4) (v:=.int .i64 (x.c k).born) (by simp [go_sem]);have f6:=hy2.keep (b:=WO.heap.size) (o:=6) (v:=.int .i64 (x.c k).to) (by simp [go_sem]);have zz:WO.heap.size<wr.heap.size:=uL f0;by_cases hl2:l<k
     ·obtain⟨b2,o2,ap2,kp2,e2,q0,q1,q2,q3,q4,q5,q6,q7,lp2,P2⟩:=(h.ext hx2).cell l (by omega);cases e2;clear P2;have d4:=(h.ext hx2).c4;have hb2:b'<wr.heap.size:=uL q0;have hb3:b<wr.heap.size:=uL d4;clear p0 p1 p2 p3 p4 p5 p6 p7;have hl0:(0:Int)<=(l:Int):=by omega
      have hl1:(l:Int)<(x.A.length:Int):=by omega
      have hl3:(l:Int)<(k:Int):=by omega
      have z2:=hy2.size;cases t1:((x.c l).st == (x.c k).st)
      ·have S:=uU (show ∀j,j<l+1->¬b2c (x.c j) (x.c k) from λj hj=>by
        by_cases e:j=l
        ·subst e;intro hs;have:=hs.1;simp at t1;exact t1 this
        ·exact HB j (by omega))
       go_wp2_with fail;go_roundw
       case rel=>exact⟨l+1,by omega,by go_num,S,hx2.alloc _,hy2.alloc _⟩
       case measure=>simp [intOf];omega
      ·cases t2:((x.c l).born == (x.c k).born)
       ·have S:=uU (show ∀j,j<l+1->¬b2c (x.c j) (x.c k) from λj hj=>by
         by_cases e:j=l
         ·subst e;intro hs;have:=hs.2.1;simp at t2;exact t2 this
         ·exact HB j (by omega))
        go_wp2_with fail;go_roundw
        case rel=>exact⟨l+1,by omega,by go_num,S,hx2.alloc _,hy2.alloc _⟩
        case measure=>simp [intOf];omega
       ·cases t3:((x.c l).to == (x.c k).to)
        ·have S:=uU (show ∀j,j<l+1->¬b2c (x.c j) (x.c k) from λj hj=>by
          by_cases e:j=l
          ·subst e;intro hs;have:=hs.2.2;simp at t3;exact t3 this
          ·exact HB j (by omega))
         go_wp2_with fail;go_roundw
         case rel=>exact⟨l+1,by omega,by go_num,S,hx2.alloc _,hy2.alloc _⟩
         case measure=>simp [intOf];omega
        ·have N:=uU (show ¬b7m x from λr=>r k hlt QS l hl2 ⟨by simpa using t1,by simpa using t2,by simpa using t3⟩);go_wp2_with fail;go_ret;exact⟨false,rfl,⟨λf=>by simp at f,λr=>(N r).elim⟩,hx2.alloc _⟩
     ·have S:=uH ST (λ_ l' hl'=>uH HB l' (by omega));go_wp2_with fail;go_roundw
      case rel=>exact⟨k+1,by omega,by go_num,S,hx2⟩
      case measure=>simp [intOf];omega
   ·have S:=uH ST (λhn=>absurd (by simpa using qs) hn);go_wp2_with fail;go_roundw
    case rel=>exact⟨k+1,by omega,by go_num,S,hbl1⟩
    case measure=>simp [intOf];omega
  ·have Y:=uU (show b7m x from λi hi hs l hl hc=>uH HA i (by omega) hs l hl hc);go_wp2_with fail;go_ret;exact⟨true,rfl,⟨λ_=>uH Y,λ_=>rfl⟩,hbl⟩
theorem a5f(cs:List Cl)(k:Nat)(h:k<cs.length):dL (cs.take (k+1))=dL (cs.take k)+hE cs[k]:=by
 unfold dL;rw[List.take_succ_eq_append_getElem h];simp only [List.map_append,List.sum_append,List.map_cons,List.map_nil,List.sum_cons,List.sum_nil,Nat.add_zero]
theorem b7v(x:Hp)(b:Nat)(w:World)(h:HAt w b x ar kr ac kc ag kg)(hn:x.A.length<=8000)(hp:∀i,i<x.A.length->(x.c i).F.length<=200):
  Calls Tryz.prog 128 #[.pointer (some ⟨b,0,none⟩)] w λe w'=>e=.returned (.int .i64 (dL x.A))/\Ext w w':=by
 have c4:=h.c4;go_enter Tryz.func128,Tryz.ntmps128;go_wp2_with fail;go_loopw [3,11] (λn i wr=>∃(k:Nat) (u:Nat),k<=x.A.length/\i=.int .i64 k/\n=.int .i64 u/\Hid (u=dL (x.A.take k))/\u<=201*k/\Ext w wr) (λ_ i _=>x.A.length-(intOf i).toNat)
 case atStart=>exact⟨0,0,Nat.zero_le _,rfl,rfl,by show _=_;simp [dL],by omega,Ext.refl _⟩
 case round=>
  obtain⟨k,u,hk,rfl,rfl,hu,hu2,hbl⟩:=hrel;by_cases hlt:k<x.A.length
  ·obtain⟨b',o,ap,kp,rfl,p0,p1,p2,p3,p4,p5,p6,p7,lp,P⟩:=(h.ext hbl).cell k hlt;have hpk:=hp k hlt;have hb':b'<wr.heap.size:=uL p0;clear P;have hk0:(0:Int)<=(k:Int):=by omega
   have hk1:(k:Int)<(x.A.length:Int):=by omega
   have hut:=a5f x.A k hlt;rw[Hp.c_eq] at hut;cases qs:((x.c k).st == 1)
   ·have qs':¬(x.c k).st=1:=by simpa using qs
    have H:Hid (u=dL (x.A.take (k+1))):=by have:=uH hu;show _=_;rw[hut,hE,if_neg qs'];omega
    clear hut;go_wp2_with fail;go_roundw
    case rel=>exact⟨k+1,u,by omega,by go_num,rfl,H,by omega,hbl.alloc _⟩
    case measure=>simp [intOf];omega
   ·have qs':(x.c k).st=1:=by simpa using qs
    have H:Hid (u+(1+(x.c k).F.length)=dL (x.A.take (k+1))):=by have:=uH hu;show _=_;rw[hut,hE,if_pos qs'];omega
    clear hut qs';go_wp2_with fail;go_roundw
    case rel=>exact⟨k+1,u+(1+(x.c k).F.length),by omega,by go_num,by go_num,H,by omega,hbl.alloc _⟩
    case measure=>simp [intOf];omega
  ·have hk2:k=x.A.length:=by omega
   have H:=uU (show u=dL x.A by have:=uH hu;rw[hk2,List.take_length] at this;exact this);clear hk2;go_wp2_with fail;go_ret;exact⟨by rw[<-uH H];rfl,hbl⟩
theorem b4c(x:Hp)(b:Nat)(w:World)(h:HAt w b x ar kr ac kc ag kg):
  Calls Tryz.prog 133 #[.pointer (some ⟨b,0,none⟩)] w λe w'=>∃r:Bool,e=.returned (.bool r)/\(r=true↔R8 x)/\Ext w w':=by
 have c4:=h.c4;have lc:=h.lc;go_enter Tryz.func133,Tryz.ntmps133;go_wp2_with fail;go_loopw [10] (λi wr=>∃(k:Nat),k<=x.A.length/\i=.int .i64 k/\(∀j,j<k->¬(x.E=6/\x.I<=j/\(x.c j).st=2))/\Ext w wr) (λi _=>x.A.length-(intOf i).toNat)
 case atStart=>exact⟨0,Nat.zero_le _,rfl,λj hj=>by omega,Ext.refl _⟩
 case round=>
  obtain⟨k,hk,rfl,hall,hbl⟩:=hrel;have HA:=uU hall;clear hall;by_cases hlt:k<x.A.length
  ·have h1:=h.ext hbl;obtain⟨b',o,ap,kp,rfl,p0,p1,p2,p3,p4,p5,p6,p7,lp,P⟩:=h1.cell k hlt;have d5:=h1.c5;have d6:=h1.c6;have hb':b'<wr.heap.size:=uL p0;have hb:b<wr.heap.size:=uL d5;clear P h1;have hk0:(0:Int)<=(k:Int):=by omega
   have hk1:(k:Int)<(x.A.length:Int):=by omega
   have step:¬(x.E=6/\x.I<=k/\(x.c k).st=2)->Hid (∀j,j<k+1->¬(x.E=6/\x.I<=j/\(x.c j).st=2)):=λhn j hj=>by
    by_cases e:j=k
    ·subst e;exact hn
    ·exact HA j (by omega)
   cases q1:(x.E == 6)
   ·have S:=step (by simp at q1;omega);clear step;go_wp2_with fail;go_roundw
    case rel=>exact⟨k+1,by omega,by go_num,S,hbl.alloc _⟩
    case measure=>simp [intOf];omega
   ·cases q2:decide (x.I<=(k:Int))
    ·have S:=step (by simp at q2;omega);clear step;go_wp2_with fail;go_roundw
     case rel=>exact⟨k+1,by omega,by go_num,S,hbl.alloc _⟩
     case measure=>simp [intOf];omega
    ·cases q3:((x.c k).st == 2)
     ·have S:=step (by simp at q3;omega);clear step;go_wp2_with fail;go_roundw
      case rel=>exact⟨k+1,by omega,by go_num,S,hbl.alloc _⟩
      case measure=>simp [intOf];omega
     ·have N:=uU (show ¬R8 x from λr=>r k hlt ⟨by simpa using q1,by simpa using q2,by simpa using q3⟩);clear step;go_wp2_with fail;go_ret;exact⟨false,rfl,⟨λf=>by simp at f,λr=>(N r).elim⟩,hbl.alloc _⟩
  ·have Y:=uU (show R8 x from λi hi=>uH HA i (by omega));go_wp2_with fail;go_ret;exact⟨true,rfl,⟨λ_=>uH Y,λ_=>rfl⟩,hbl⟩
end Go.Proofs.YtddkhnclmeikfaaGreat
