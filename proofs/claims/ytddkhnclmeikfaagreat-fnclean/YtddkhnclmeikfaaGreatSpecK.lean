import Derived.Test.YtddkhnclmeikfaaGreatSpecD
import Derived.Deep.DeepCutAuto
set_option maxRecDepth 100000
set_option maxHeartbeats 8000000
namespace Go.Proofs.YtddkhnclmeikfaaGreat
open Go.RowKit
attribute [local go_sem ↓] Go.wp_at_zero Go.wp_at_succ
def a6a(c:Cl):Bool:=(c.kind == 0) && (c.T == 0) && (c.U == 0) && (c.born == 0) && (c.J == 0) && ((c.F.length:Int) == 0)
theorem a7f{c:Cl}:a6a c=true↔yW c:=by simp [a6a,yW,and_assoc]
theorem b7u(x:Hp)(b:Nat)(w:World){ar:Option Addr}{kr:Nat}{ac:Option Addr}{kc:Nat}{ag:Option Addr}{kg:Nat}(h:HAt w b x ar kr ac kc ag kg):
  Calls Tryz.prog 127 #[.pointer (some ⟨b,0,none⟩)] w λe w'=>∃r:Bool,e=.returned (.bool r)/\(r=true↔R2 x)/\Ext w w':=by
 have c4:=h.c4;have lc:=h.lc;go_enter Tryz.func127,Tryz.ntmps127;go_wp2_with fail;go_loopw [12] (λi wr=>∃k:Nat,k<=x.A.length/\i=.int .i64 k/\(∀j,j<k->cQ x j)/\Ext w wr) (λi _=>x.A.length-(intOf i).toNat)
 case atStart=>exact⟨0,Nat.zero_le _,rfl,λj h=>by omega,Ext.refl _⟩
 case round=>
  obtain⟨k,hk,rfl,hall,hbl⟩:=hrel;have HA:=uU hall;clear hall;by_cases hlt:k<x.A.length
  ·have hh:=h.ext hbl;obtain⟨b',o,ap,kp,rfl,p0,p1,p2,p3,p4,p5,p6,p7,lp,P⟩:=hh.cell k hlt;clear P;have e2:=hh.c2;have e5:=hh.c5;have hb':b'<wr.heap.size:=uL p0;have hb:b<wr.heap.size:=uL e5;have hk0:(0:Int)<=(k:Int):=by omega
   have hk1:(k:Int)<(x.A.length:Int):=by omega
   have hbl1:=hbl.alloc (.cells #[.int .i64 (x.c k).st,.int .i64 (x.c k).kind,.int .i64 (x.c k).T,.int .i64 (x.c k).U,.int .i64 (x.c k).born,.int .i64 (x.c k).J,.int .i64 (x.c k).to,.slice ap (x.c k).F.length kp] 62)
   have ST:=uU (show cQ x k->∀j,j<k+1->cQ x j from λhn j hj=>by
    by_cases e:j=k
    ·subst e;exact hn
    ·exact HA j (by omega))
   have NK:=uU (show ¬cQ x k->¬R2 x from λhn r=>hn (r.1 k hlt))
   go_upto_region 4 with fail
   go_cut [5] from 17 to 45 (λv wx=>v=.bool (a6a (x.c k))/\wx=wr.alloc (.cells #[.int .i64 (x.c k).st,.int .i64 (x.c k).kind,.int .i64 (x.c k).T,.int .i64 (x.c k).U,.int .i64 (x.c k).born,.int .i64 (x.c k).J,.int .i64 (x.c k).to,.slice ap (x.c k).F.length kp] 62))
   case first=>
    cases z0:((x.c k).kind == 0)
    ·go_wp2_with fail;go_meet;exact⟨by simp [a6a,z0],rfl⟩
    ·skip
     cases z1:((x.c k).T == 0)
     ·go_wp2_with fail;go_meet;exact⟨by simp [a6a,z1],rfl⟩
     ·skip
      cases z2:((x.c k).U == 0)
      ·go_wp2_with fail;go_meet;exact⟨by simp [a6a,z2],rfl⟩
      ·skip
       cases z3:((x.c k).born == 0)
       ·go_wp2_with fail;go_meet;exact⟨by simp [a6a,z3],rfl⟩
       ·skip
        cases z4:((x.c k).J == 0)
        ·go_wp2_with fail;go_meet;exact⟨by simp [a6a,z4],rfl⟩
        ·skip
         go_wp2_with fail;go_meet;exact⟨by simp [a6a,z0,z1,z2,z3,z4],rfl⟩
   case rest=>
    obtain⟨rfl,rfl⟩:=hcut;cases s0:((x.c k).st == 0)
    ·cases s2:((x.c k).st == 2)
     ·cases s1:((x.c k).st == 1)
      ·have NN:=uU (NK (λc=>by simp at s0 s1 s2;unfold cQ at c;rcases c with c | c | c <;> simp [c.1] at s0 s1 s2));go_wp2_with fail;go_ret
       first | (exact Or.inl ⟨rfl,NN,hbl1⟩) | (exact⟨false,rfl,⟨λf=>by simp at f,λr=>(NN r).elim⟩,hbl1⟩)
      ·have SN:=uU (show a2k x (x.c k)->cQ x k from λu=>Or.inr (Or.inr ⟨by simpa using s1,u⟩))
       have SU:=uU (show ¬a2k x (x.c k)->¬cQ x k from λu c=>by
        simp at s0 s1 s2;rcases c with c | c | c
        ·exact s0 c.1
        ·exact s2 c.1
        ·exact u c.2)
       cases v0:hD (x.c k).kind 0 255
       ·have NN:=uU (NK (SU (λu=>a0d v0 u.1)));go_wp2_with fail;go_quiet ((go_at_call 60;first | (refine Calls.quiet_of_same (eC _ _ _ true ?_ _);assumption) | (refine Calls.quiet_of_same (eC _ _ _ false ?_ _);assumption)));go_wp2_with fail;go_ret
        first | (exact Or.inl ⟨rfl,NN,Ext.drewN hbl1 _⟩) | (exact⟨false,rfl,⟨λf=>by simp at f,λr=>(NN r).elim⟩,Ext.drewN hbl1 _⟩)
       ·skip
        cases v1:hD (x.c k).T 0 3
        ·have NN:=uU (NK (SU (λu=>a0d v1 u.2.1)));go_wp2_with fail;go_quiet ((go_at_call 60;first | (refine Calls.quiet_of_same (eC _ _ _ true ?_ _);assumption) | (refine Calls.quiet_of_same (eC _ _ _ false ?_ _);assumption)));go_wp2_with fail;go_ret
         first | (exact Or.inl ⟨rfl,NN,Ext.drewN hbl1 _⟩) | (exact⟨false,rfl,⟨λf=>by simp at f,λr=>(NN r).elim⟩,Ext.drewN hbl1 _⟩)
        ·skip
         cases v2:hD (x.c k).U 0 3
         ·have NN:=uU (NK (SU (λu=>a0d v2 u.2.2.1)));go_wp2_with fail;go_quiet ((go_at_call 60;first | (refine Calls.quiet_of_same (eC _ _ _ true ?_ _);assumption) | (refine Calls.quiet_of_same (eC _ _ _ false ?_ _);assumption)));go_wp2_with fail;go_ret
          first | (exact Or.inl ⟨rfl,NN,Ext.drewN hbl1 _⟩) | (exact⟨false,rfl,⟨λf=>by simp at f,λr=>(NN r).elim⟩,Ext.drewN hbl1 _⟩)
         ·skip
          cases v3:hD (x.c k).born 1 x.born
          ·have NN:=uU (NK (SU (λu=>a0d v3 u.2.2.2.1)));go_wp2_with fail;go_quiet ((go_at_call 60;first | (refine Calls.quiet_of_same (eC _ _ _ true ?_ _);assumption) | (refine Calls.quiet_of_same (eC _ _ _ false ?_ _);assumption)));go_wp2_with fail;go_ret
           first | (exact Or.inl ⟨rfl,NN,Ext.drewN hbl1 _⟩) | (exact⟨false,rfl,⟨λf=>by simp at f,λr=>(NN r).elim⟩,Ext.drewN hbl1 _⟩)
          ·skip
           cases v4:hD (x.c k).J 0 2
           ·have NN:=uU (NK (SU (λu=>a0d v4 u.2.2.2.2.1)));go_wp2_with fail;go_quiet ((go_at_call 60;first | (refine Calls.quiet_of_same (eC _ _ _ true ?_ _);assumption) | (refine Calls.quiet_of_same (eC _ _ _ false ?_ _);assumption)));go_wp2_with fail;go_ret
            first | (exact Or.inl ⟨rfl,NN,Ext.drewN hbl1 _⟩) | (exact⟨false,rfl,⟨λf=>by simp at f,λr=>(NN r).elim⟩,Ext.drewN hbl1 _⟩)
           ·skip
            cases v5:((x.c k).to != 0);rotate_left
            ·have NN:=uU (NK (SU (λu=>by simp at v5;exact v5 u.2.2.2.2.2.1)));go_wp2_with fail;go_quiet ((go_at_call 60;first | (refine Calls.quiet_of_same (eC _ _ _ true ?_ _);assumption) | (refine Calls.quiet_of_same (eC _ _ _ false ?_ _);assumption)));go_wp2_with fail;go_ret
             first | (exact Or.inl ⟨rfl,NN,Ext.drewN hbl1 _⟩) | (exact⟨false,rfl,⟨λf=>by simp at f,λr=>(NN r).elim⟩,Ext.drewN hbl1 _⟩)
            ·skip
             by_cases v6:200<(x.c k).F.length
             ·have NN:=uU (NK (SU (λu=>by have:=u.2.2.2.2.2.2;omega)));go_wp2_with fail;go_quiet ((go_at_call 60;first | (refine Calls.quiet_of_same (eC _ _ _ true ?_ _);assumption) | (refine Calls.quiet_of_same (eC _ _ _ false ?_ _);assumption)));go_wp2_with fail;go_ret
              first | (exact Or.inl ⟨rfl,NN,Ext.drewN hbl1 _⟩) | (exact⟨false,rfl,⟨λf=>by simp at f,λr=>(NN r).elim⟩,Ext.drewN hbl1 _⟩)
             ·skip
              have S:=uU (ST (SN ⟨cK v0,cK v1,cK v2,cK v3,cK v4,by simpa using v5,by omega⟩));go_wp2_with fail;go_quiet ((go_at_call 60;first | (refine Calls.quiet_of_same (eC _ _ _ true ?_ _);assumption) | (refine Calls.quiet_of_same (eC _ _ _ false ?_ _);assumption)));go_wp2_with fail;go_roundw
              case rel=>exact⟨k+1,by omega,by go_num,S,Ext.drewN hbl1 _⟩
              case measure=>simp [intOf];omega
     ·have SN:=uU (show eX x k (x.c k)->cQ x k from λu=>Or.inr (Or.inl ⟨by simpa using s2,u⟩))
      have SU:=uU (show ¬eX x k (x.c k)->¬cQ x k from λu c=>by
       simp at s0 s2;rcases c with c | c | c
       ·exact s0 c.1
       ·exact u c.2
       ·omega)
      cases zb:a6a (x.c k)
      ·have NN:=uU (NK (SU (λu=>by have:=a7f.2 u.1;rw[zb] at this;simp at this)));go_wp2_with fail;go_ret
       first | (exact Or.inl ⟨rfl,NN,hbl1⟩) | (exact⟨false,rfl,⟨λf=>by simp at f,λr=>(NN r).elim⟩,hbl1⟩)
      ·by_cases m1:x.E<4
       ·have NN:=uU (NK (SU (λu=>by have:=u.2.1;omega)));go_wp2_with fail;go_ret
        first | (exact Or.inl ⟨rfl,NN,hbl1⟩) | (exact⟨false,rfl,⟨λf=>by simp at f,λr=>(NN r).elim⟩,hbl1⟩)
       ·by_cases m2:(x.c k).to<0
        ·have NN:=uU (NK (SU (λu=>by have:=u.2.2.1;omega)));go_wp2_with fail;go_ret
         first | (exact Or.inl ⟨rfl,NN,hbl1⟩) | (exact⟨false,rfl,⟨λf=>by simp at f,λr=>(NN r).elim⟩,hbl1⟩)
        ·by_cases m3:(k:Int)<=(x.c k).to
         ·have NN:=uU (NK (SU (λu=>by have:=u.2.2.2.1;omega)));go_wp2_with fail;go_ret
          first | (exact Or.inl ⟨rfl,NN,hbl1⟩) | (exact⟨false,rfl,⟨λf=>by simp at f,λr=>(NN r).elim⟩,hbl1⟩)
         ·obtain⟨t,ht⟩:=Int.eq_ofNat_of_zero_le (show 0<=(x.c k).to by omega);have hu:=uU (a5b x b (x.c k).to _ (h.ext hbl1) (by omega) (by omega));cases m4:a7u x (x.c k).to.toNat
          ·have NN:=uU (NK (SU (λu=>by have:=b4t.2 u.2.2.2.2.1;rw[this] at m4;simp at m4)));clear ht;go_wp2_with (go_at_call 203;refine hu.mono ?_;rintro e w' ⟨rfl,rfl⟩);go_ret
           first | (exact Or.inl ⟨rfl,NN,hbl1⟩) | (exact⟨false,rfl,⟨λf=>by simp at f,λr=>(NN r).elim⟩,hbl1⟩)
          ·have HT:=uU ht;have SM:=uU (show(x.E=4->∀j:Nat,(j:Int)<(x.c k).to->(x.c j).st≠0)->∀j,j<k+1->cQ x j from λhx=>uH ST (SN ⟨a7f.1 zb,by omega,by omega,by omega,b4t.1 m4,hx⟩));have OPEN:=uU (λl (hl:l<t)=>hh.cell l (by omega));have g4:=hh.c4;clear ht;go_wp2_with (go_at_call 203;refine hu.mono ?_;rintro e w' ⟨rfl,rfl⟩)
           go_loop [6] (λi=>∃l:Nat,l<=t/\i=.int .i64 l/\(x.E=4->∀j,j<l->(x.c j).st≠0)) (λi=>t-(intOf i).toNat)
           case atStart=>exact⟨0,Nat.zero_le _,rfl,λ_ j h=>by omega⟩
           case round=>
            obtain⟨l,hl,rfl,hall⟩:=hrel;have HB:=uU hall;clear hall;by_cases hl2:l<t
            ·have hl3:(l:Int)<(x.c k).to:=by have:=uH HT;omega
             cases m5:(x.E == 4)
             ·have S:=uU (SM (λe=>by simp [e] at m5));go_wp2_with fail;go_roundw
              case rel=>exact⟨k+1,by omega,by go_num,S,hbl1⟩
              case measure=>simp [intOf];omega
             ·obtain⟨b2,o2,ap2,kp2,e2,r0,r1,r2,r3,r4,r5,r6,r7,lp2,P2⟩:=OPEN l hl2;cases e2;clear P2 r1 r2 r3 r4 r5 r6 r7;have hl0:(0:Int)<=(l:Int):=by omega
              have hl1:(l:Int)<(x.A.length:Int):=by have:=uH HT;omega
              cases m6:((x.c l).st == 0)
              ·have S:=uU (show x.E=4->∀j,j<l+1->(x.c j).st≠0 from λe j hj=>by
                by_cases e2:j=l
                ·subst e2;simpa using m6
                ·exact HB e j (by omega))
               go_wp2_with fail
               go_round
               case rel=>exact⟨l+1,by omega,by go_num,S⟩
               case measure=>simp [intOf];omega
              ·have NN:=uU (NK (SU (λu=>u.2.2.2.2.2 (by simpa using m5) l hl3 (by simpa using m6))));go_wp2_with fail;go_ret
               first | (exact Or.inl ⟨rfl,NN,hbl1⟩) | (exact⟨false,rfl,⟨λf=>by simp at f,λr=>(NN r).elim⟩,hbl1⟩)
            ·have hl3:¬(l:Int)<(x.c k).to:=by have:=uH HT;omega
             have S:=uU (SM (λe j hj=>uH HB e j (by have:=uH HT;omega)));go_wp2_with fail;go_roundw
             case rel=>exact⟨k+1,by omega,by go_num,S,hbl1⟩
             case measure=>simp [intOf];omega
    ·have SN:=uU (show yW (x.c k)/\(x.c k).to=0->cQ x k from λu=>Or.inl ⟨by simpa using s0,u⟩)
     have SU:=uU (show ¬(yW (x.c k)/\(x.c k).to=0)->¬cQ x k from λu c=>by
      simp at s0;rcases c with c | c | c
      ·exact u c.2
      ·omega
      ·omega)
     cases zb:a6a (x.c k)
     ·have NN:=uU (NK (SU (λu=>by have:=a7f.2 u.1;rw[zb] at this;simp at this)));go_wp2_with fail;go_ret
      first | (exact Or.inl ⟨rfl,NN,hbl1⟩) | (exact⟨false,rfl,⟨λf=>by simp at f,λr=>(NN r).elim⟩,hbl1⟩)
     ·cases zt:((x.c k).to == 0)
      ·have zt2:((x.c k).to != 0)=true:=by simpa using zt
       have NN:=uU (NK (SU (λu=>by simp [u.2] at zt)));go_wp2_with fail;go_ret
       first | (exact Or.inl ⟨rfl,NN,hbl1⟩) | (exact⟨false,rfl,⟨λf=>by simp at f,λr=>(NN r).elim⟩,hbl1⟩)
      ·have zt2:((x.c k).to != 0)=false:=by simpa using zt
       have S:=uU (ST (SN ⟨a7f.1 zb,by simpa using zt⟩));go_wp2_with fail;go_roundw
       case rel=>exact⟨k+1,by omega,by go_num,S,hbl1⟩
       case measure=>simp [intOf];omega
  ·have A1:=uU (show ∀j,j<x.A.length->cQ x j from λj hj=>uH HA j (by omega));go_wp2_with fail;refine(b7t x b _ (h.ext hbl)).mono ?_;rintro e w1 ⟨r,rfl,hr,hq⟩;have HR:=uU hr;clear hr;go_wp2_with fail;go_ret;exact⟨r,rfl,⟨λf=>⟨A1,HR.1 f⟩,λf=>HR.2 f.2⟩,hbl.trans hq⟩
end Go.Proofs.YtddkhnclmeikfaaGreat
