import Derived.Test.YtddkhnclmeikfaaGreatWh3
import Derived.Laws.StructEq
set_option maxRecDepth 100000
set_option maxHeartbeats 4000000
namespace Go.Proofs.YtddkhnclmeikfaaGreat
open Go.RowKit
attribute [local go_sem ↓] Go.wp_at_zero Go.wp_at_succ
variable{x:Hp}{w w' w4:World}{B br kr kn:Nat}{pb pk cB cO:Nat->Nat}{pa ac:Nat->Option Addr}{c:Cl}{ar:Option Addr}{vr vc vg:Value}
theorem a9w(bn on bc oc:Nat)(wk:Int)(w:World)(m1:w.cell? ⟨bn,on+1,none⟩=some (.pointer (some ⟨bc,oc,none⟩)))(p2:w.cell? ⟨bc,oc+2,none⟩=some (iv wk)):
  Calls Tryz.prog 200 #[.pointer (some ⟨bn,on,none⟩)] w λe w'=>e=.returned (.bool (wk == 1 || wk == 3))/\Ext w w':=by
 cases t1:(wk == 1)
 ·cases t3:(wk == 3)
  ·go_enter Tryz.func200,Tryz.ntmps200;go_wp2_with fail;go_ret;exact⟨rfl,Ext.refl _⟩
  ·go_enter Tryz.func200,Tryz.ntmps200;go_wp2_with fail;go_ret;exact⟨rfl,Ext.refl _⟩
 ·go_enter Tryz.func200,Tryz.ntmps200;go_wp2_with fail;go_ret;exact⟨rfl,Ext.refl _⟩
theorem a5y(bn on bc oc:Nat)(wk:Int)(w:World)(m1:w.cell? ⟨bn,on+1,none⟩=some (.pointer (some ⟨bc,oc,none⟩)))(p2:w.cell? ⟨bc,oc+2,none⟩=some (iv wk)):
  Calls Tryz.prog 201 #[.pointer (some ⟨bn,on,none⟩)] w λe w'=>e=.returned (.bool (wk == 2 || wk == 3))/\Ext w w':=by
 cases t1:(wk == 2)
 ·cases t3:(wk == 3)
  ·go_enter Tryz.func201,Tryz.ntmps201;go_wp2_with fail;go_ret;exact⟨rfl,Ext.refl _⟩
  ·go_enter Tryz.func201,Tryz.ntmps201;go_wp2_with fail;go_ret;exact⟨rfl,Ext.refl _⟩
 ·go_enter Tryz.func201,Tryz.ntmps201;go_wp2_with fail;go_ret;exact⟨rfl,Ext.refl _⟩
def zp(p:Pr):Bool:=p.key.k == 0 && p.key.n == 0 && p.key.a == 0 && p.val.k == 0 && p.val.n == 0 && p.val.a == 0
theorem c3n(p:Pr)(w:World):(Op.equalIn 10000 154 (.agg #[iv p.key.k,iv p.key.n,iv p.key.a,iv p.val.k,iv p.val.n,iv p.val.a]) (.agg #[iv 0,iv 0,iv 0,iv 0,iv 0,iv 0])).run Tryz.prog w=.ok (zp p) w:=by
 rw[run_equalIn_struct w 9999 _ _ _ (by kernel_rfl) (by kernel_rfl)];simp [go_sem,zp]
 repeat' split
 all_goals simp_all
theorem c8j(p:Pr)(w:World):(binOp .eql 154 (.agg #[iv p.key.k,iv p.key.n,iv p.key.a,iv p.val.k,iv p.val.n,iv p.val.a]) (.agg #[iv 0,iv 0,iv 0,iv 0,iv 0,iv 0])).run Tryz.prog w=.ok (.bool (zp p)) w:=by
 rw[run_eql_struct,c3n];rfl
theorem sk_of(h:(c.weak == 1 || c.weak == 3)=false):SK c:=by simp at h;exact h
theorem sk_not(h:(c.weak == 1 || c.weak == 3)=true):¬SK c:=λk=>by simp at h;unfold SK at k;omega
theorem sv_of(h:(c.weak == 2 || c.weak == 3)=false):SV c:=by simp at h;exact h
theorem c8k(h:(c.weak == 2 || c.weak == 3)=true):¬SV c:=λk=>by simp at h;unfold SV at k;omega
theorem zp_cls{M S:List Nat}{g:Nat->List (Option Nat)}{j l:Nat}(h:zp ((x.c j).p l)=true)(C:a2m x M S g none j l):a2m x M S g none j (l+1):=λp h1 h2=>by
 by_cases e:p=l
 ·subst e;simp [zp] at h;refine⟨λ_ k=>by omega,λ_ k=>by omega⟩
 ·exact C p h1 (by omega)
theorem c8m(x:Hp)(a:World)(b bw r1 r2 bn on j:Nat)(v:Value)(f:Nat->Value)(g:Nat->List (Option Nat))(Mt St:List Nat)(w:World){ar:Option Addr}{kr:Nat}{ac:Nat->Option Addr}{kn:Nat}(hv:VNt a b x ar kr ac (some ⟨bn,on,none⟩) kn)(q2:R2 x)(q4:R4 x)(h200:(x.c j).prs.length<=200)(h:eH w a.heap.size bw b r1 bn on x.cells.length v Mt St)(ht:zN w a.heap.size bw r1 r2 bn on v f g)(hI:tK x Mt St g none (some j))(hj:j∈Mt)(hx:Ext a w)(hn8:x.cells.length<=8000)(hg:∀k,(g k).length<=9000000):
  Calls Tryz.prog 125 #[.pointer (some ⟨bw,0,none⟩),ptr bn (on+j*2)] w λe w'=>e=.returned (.tuple #[])/\∃v' Mt' St' f' g',eH w' a.heap.size bw b r1 bn on x.cells.length v' Mt' St'/\zN w' a.heap.size bw r1 r2 bn on v' f' g'/\Hid (tK x Mt' St' g' none none/\zD (λ_=>True) Mt Mt' St St'/\∀k,(g' k).length<=(g k).length+200)/\Hid (Ext a w'):=by
 have hjn:j<x.cells.length:=h.rg j hj;have HJ:=uU (hI.only j hj);have GD:=uU ((hI.only j hj).good q2 q4);obtain⟨bc,oc,ap,kp,e1,C⟩:=hv.H.cell j hjn;obtain⟨bn',on',bc',oc',e2,e3,m0,m1'⟩:=hv.N j hjn;rw[e1] at e3;cases e2;cases e3;have p7:=hx.keep C.p7;have m1:=hx.keep m1';have M1:=uU m1';have P2:=uU C.p2;have lp:=C.lp;have HP:=uU C.P;have HV:=uU hv;have HW:=uU h;have HT:=uU ht;have HI:=uU hI;have Q2:=uU q2;have Q4:=uU q4;clear C m0 m1' h ht hI e1 hv q2 q4;go_enter Tryz.func125,Tryz.ntmps125;go_wp2_with fail;go_loopw [15] (λi wr=>∃(l:Nat) (u:Value) (M S:List Nat) (f':Nat->Value) (g':Nat->List (Option Nat)),l<=(x.c j).prs.length/\i=.int .i64 l/\eH wr a.heap.size bw b r1 bn on x.cells.length u M S/\zN wr a.heap.size bw r1 r2 bn on u f' g'/\Hid (tK x M S g' none (some j)/\a2m x M S g' none j l/\zD (λ_=>True) Mt M St S/\∀k,(g' k).length<=(g k).length+l)/\Ext a wr) (λi _=>(x.c j).prs.length-(intOf i).toNat)
 case atStart=>exact⟨0,v,Mt,St,f,g,Nat.zero_le _,rfl,HW,HT,⟨HI,(λp _ h=>by omega),zD.refl,λk=>by omega⟩,hx⟩
 case round=>
  clear HW HT HI p7 m1 hx;clear f v;obtain⟨l,u,M,S,f,g',hl,rfl,hw,htt,hinv,hbl⟩:=hrel;have HW:=uU hw;have HT:=uU htt;have c0:=hw.c0;have hbw:bw<wr.heap.size:=hw.rlt.1;by_cases hl2:l<(x.c j).prs.length
  ·obtain⟨b2,o2,rfl,q0,q1,q2,q3,q4,q5⟩:=uH HP l hl2;have e0:=hbl.keep q0;have e1:=hbl.keep q1;have e2:=hbl.keep q2;have e3:=hbl.keep q3;have e4:=hbl.keep q4;have e5:=hbl.keep q5;have hb2:b2<wr.heap.size:=uL e0;clear q0 q1 q2 q3 q4 q5 hw htt;have hl0:(0:Int)<=(l:Int):=by omega
   have hl1:(l:Int)<((x.c j).prs.length:Int):=by omega
   have xa:=(Ext.refl wr).alloc (.cells #[.int .i64 ((x.c j).p l).key.k,.int .i64 ((x.c j).p l).key.n,.int .i64 ((x.c j).p l).key.a,.int .i64 ((x.c j).p l).val.k,.int .i64 ((x.c j).p l).val.n,.int .i64 ((x.c j).p l).val.a] 154);have MK:=uU (a4d Q2 Q4 j l GD hl2);have PE:=λw=>c3n ((x.c j).p l) w
   have PE2:=λw=>c8j ((x.c j).p l) w
   cases tz:zp ((x.c j).p l);rotate_left
   ·simp only [tz] at PE PE2;have R:=uU (And.intro (HW.ext xa) (And.intro (HT.ext xa) (And.intro (zp_cls tz hinv.2.1) (hbl.trans xa))));clear tz;go_wp2_with fail;go_roundw
    case rel=>exact⟨l+1,u,M,S,f,g',by omega,by go_num,R.1,R.2.1,⟨hinv.1,R.2.2.1,hinv.2.2.1,λk=>by have:=hinv.2.2.2 k;omega⟩,R.2.2.2⟩
    case measure=>simp [intOf];omega
   ·simp only [tz] at PE PE2;clear tz;go_wp2_with fail;go_cut [6] (λs6 wx=>∃o1,s6=pv bn on o1/\Hid (o1=wo x ((x.c j).p l).key)/\Ext (wr.alloc (.cells #[.int .i64 ((x.c j).p l).key.k,.int .i64 ((x.c j).p l).key.n,.int .i64 ((x.c j).p l).key.a,.int .i64 ((x.c j).p l).val.k,.int .i64 ((x.c j).p l).val.n,.int .i64 ((x.c j).p l).val.a] 154)) wx)
    case first=>
     go_region_with (go_at_call 123;refine(b3p x ((x.c j).p l).key b _ bn on (HV.ext (hbl.trans xa).drew) Q2 MK.1).mono ?_;rintro e w2 ⟨rfl,hq2⟩)
     all_goals
      go_wp2_with fail;go_meet;exact⟨_,rfl,rfl,Ext.trans ((Ext.refl _).drew) hq2⟩
    case rest=>
    obtain⟨o1,rfl,O1,hq2⟩:=hcut;obtain⟨w2,hw2⟩:∃W,W=wc:=⟨_,rfl⟩;subst hw2;have x2:=xa.trans hq2;have X2:=hbl.trans x2;have v3:w2.cell? ⟨wr.heap.size,3,none⟩=some (.int .i64 ((x.c j).p l).val.k):=hq2.keep (by simp [go_sem]);have v4:w2.cell? ⟨wr.heap.size,4,none⟩=some (.int .i64 ((x.c j).p l).val.n):=hq2.keep (by simp [go_sem]);have v5:w2.cell? ⟨wr.heap.size,5,none⟩=some (.int .i64 ((x.c j).p l).val.a):=hq2.keep (by simp [go_sem]);have W2:=uU (HW.ext x2);have T2:=uU (HT.ext x2);have c0:=W2.c0;clear PE PE2 e0 e1 e2 e3 e4 e5 hq2;go_wp2_with fail;refine(a9w bn (on+j*2) bc oc (x.c j).weak _ (X2.keep M1) (X2.keep P2)).mono ?_;rintro e w3 ⟨rfl,hq3⟩;cases tk:((x.c j).weak == 1 || (x.c j).weak == 3)
    ·have hsep:wr.heap.size<w3.heap.size:=Nat.lt_of_lt_of_le (uL v3) hq3.size;have X3:=X2.trans hq3;go_wp2_with fail;refine(a9v a.heap.size bw b r1 bn on x.cells.length o1 u M S _ (W2.ext hq3) (λi e=>(b5v MK.1 i (by rw[<-uH O1];exact e)).1) X3.size hn8).mono ?_;rintro e w4 ⟨rfl,u4,M4,S4,hw4,hg4,hk4⟩;have kb:=hk4.block wr.heap.size hsep (by have:=HW.rlt;omega) (by have:=HW.rlt;omega) (λe=>by have:=(HW.s.lt _ e).2;omega);have y3:=(World.cell?_of_block (a:=⟨wr.heap.size,3,none⟩) kb).trans (hq3.keep v3);have y4:=(World.cell?_of_block (a:=⟨wr.heap.size,4,none⟩) kb).trans (hq3.keep v4);have y5:=(World.cell?_of_block (a:=⟨wr.heap.size,5,none⟩) kb).trans (hq3.keep v5);have X4:=(W2.ext hq3).kext hk4 X3;have W4:=uU hw4;have T4:=uU ((T2.ext hq3).step hk4);have G4:=uU hg4.1
     have I4:=uU (hinv.1.grow hg4.1 (λi e=>by
      obtain⟨_,k,rfl⟩:=b5v MK.1 i (by rw[<-uH O1];exact e);exact dK.key j l HJ hl2 (sk_of tk) k))
     have K4:=uU (show SK (x.c j)->((x.c j).p l).key.k=2->tgt x ((x.c j).p l).key∈M4 from λ_ k=>hg4.2 _ (by rw[uH O1];unfold wo;rw[if_pos k]));clear hw4 hg4 hk4 kb v3 v4 v5 hsep;go_wp2_with fail;refine(a5y bn (on+j*2) bc oc (x.c j).weak _ (X4.keep M1) (X4.keep P2)).mono ?_;rintro e w5 ⟨rfl,hq5⟩;have X5:=X4.trans hq5;cases tv:((x.c j).weak == 2 || (x.c j).weak == 3)
     ·have z3:=hq5.keep y3;have z4:=hq5.keep y4;have z5:=hq5.keep y5;have d0:=hq5.keep W4.c0;clear y3 y4 y5;go_wp2_with fail
      go_region_with (first
       | (go_at_call 123;refine(b3p x ((x.c j).p l).val b _ bn on (HV.ext X5.drew) Q2 MK.2).mono ?_;rintro e w6 ⟨rfl,hq6⟩;have X6:=X5.drew.trans hq6;have Y6:=Ext.trans ((Ext.refl w5).drew) hq6;obtain⟨o2,ho2⟩:∃o,o=wo x ((x.c j).p l).val:=⟨_,rfl⟩;rw[<-ho2];have O2:=uU ho2;clear ho2 hq6)
       | (go_at_call 202;refine(b3q a bw b r1 r2 bn on x.cells.length o1 o2 u4 f g' M4 S4 _ ((W4.ext hq5).ext Y6) ((T4.ext hq5).ext Y6) (λi e=>(b5v MK.2 i (by rw[<-uH O2];exact e)).1) X6 hn8 (λk=>by have:=hinv.2.2.2 k;have:=hg k;omega)).mono ?_;rintro e w7 ⟨rfl,u7,M7,S7,f7,g7,hw7,ht7,hb7,hx7⟩;have B7:=uU (show Bes (wo x ((x.c j).p l).key) (wo x ((x.c j).p l).val) M4 M7 S4 S7 g' g7 by rw[<-uH O1,<-uH O2];exact hb7);have R:=uU (show eH w7 a.heap.size bw b r1 bn on x.cells.length u7 M7 S7/\zN w7 a.heap.size bw r1 r2 bn on u7 f7 g7/\(tK x M7 S7 g7 none (some j)/\a2m x M7 S7 g7 none j (l+1)/\zD (λ_=>True) Mt M7 St S7/\∀k,(g7 k).length<=(g k).length+(l+1))/\Ext a w7 from⟨hw7,ht7,⟨I4.beside HJ hl2 (sv_of tv) MK.2 B7,a7w hinv.2.1 G4 K4 (.inr B7) B7.grow,(hinv.2.2.1.trans (G4.mono (λ_ _=>trivial))).trans (B7.grow.mono (λ_ _=>trivial)),λk=>by have:=B7.len k;have:=hinv.2.2.2 k;omega⟩,hx7⟩);clear hw7 ht7 hb7 hx7 B7))
      all_goals
       go_wp2_with fail;go_roundw
       case rel=>exact⟨l+1,u7,M7,S7,f7,g7,by omega,by go_num,R.1,R.2.1,R.2.2.1,R.2.2.2⟩
       case measure=>simp [intOf];omega
     ·have R:=uU (show eH w5 a.heap.size bw b r1 bn on x.cells.length u4 M4 S4/\zN w5 a.heap.size bw r1 r2 bn on u4 f g'/\(tK x M4 S4 g' none (some j)/\a2m x M4 S4 g' none j (l+1)/\zD (λ_=>True) Mt M4 St S4/\∀k,(g' k).length<=(g k).length+(l+1))/\Ext a w5 from
       ⟨W4.ext hq5,T4.ext hq5,⟨I4,a7w hinv.2.1 G4 K4 (.inl ⟨c8k tv,rfl,rfl,rfl⟩) (zD.refl (Q:=λ_=>True)),hinv.2.2.1.trans (G4.mono (λ_ _=>trivial)),λk=>by have:=hinv.2.2.2 k;omega⟩,X5⟩)
      clear y3 y4 y5;go_wp2_with fail;go_roundw
      case rel=>exact⟨l+1,u4,M4,S4,f,g',by omega,by go_num,R.1,R.2.1,R.2.2.1,R.2.2.2⟩
      case measure=>simp [intOf];omega
    ·have X4:=X2.trans hq3;have y3:=hq3.keep v3;have y4:=hq3.keep v4;have y5:=hq3.keep v5;have W4:=uU (W2.ext hq3);have T4:=uU (T2.ext hq3);have G4:=uU (show zD (λi=>o1=some i) M M S S from zD.refl);have I4:=uU hinv.1;have K4:=uU (show SK (x.c j)->((x.c j).p l).key.k=2->tgt x ((x.c j).p l).key∈M from λs _=>(sk_not tk s).elim);clear v3 v4 v5;go_wp2_with fail;refine(a5y bn (on+j*2) bc oc (x.c j).weak _ (X4.keep M1) (X4.keep P2)).mono ?_;rintro e w5 ⟨rfl,hq5⟩;have X5:=X4.trans hq5;cases tv:((x.c j).weak == 2 || (x.c j).weak == 3)
     ·have z3:=hq5.keep y3;have z4:=hq5.keep y4;have z5:=hq5.keep y5;have d0:=hq5.keep W4.c0;clear y3 y4 y5;go_wp2_with fail
      go_region_with (first
       | (go_at_call 123;refine(b3p x ((x.c j).p l).val b _ bn on (HV.ext X5.drew) Q2 MK.2).mono ?_;rintro e w6 ⟨rfl,hq6⟩;have X6:=X5.drew.trans hq6;have Y6:=Ext.trans ((Ext.refl w5).drew) hq6;obtain⟨o2,ho2⟩:∃o,o=wo x ((x.c j).p l).val:=⟨_,rfl⟩;rw[<-ho2];have O2:=uU ho2;clear ho2 hq6)
       | (go_at_call 202;refine(b3q a bw b r1 r2 bn on x.cells.length o1 o2 u f g' M S _ ((W4.ext hq5).ext Y6) ((T4.ext hq5).ext Y6) (λi e=>(b5v MK.2 i (by rw[<-uH O2];exact e)).1) X6 hn8 (λk=>by have:=hinv.2.2.2 k;have:=hg k;omega)).mono ?_;rintro e w7 ⟨rfl,u7,M7,S7,f7,g7,hw7,ht7,hb7,hx7⟩;have B7:=uU (show Bes (wo x ((x.c j).p l).key) (wo x ((x.c j).p l).val) M M7 S S7 g' g7 by rw[<-uH O1,<-uH O2];exact hb7);have R:=uU (show eH w7 a.heap.size bw b r1 bn on x.cells.length u7 M7 S7/\zN w7 a.heap.size bw r1 r2 bn on u7 f7 g7/\(tK x M7 S7 g7 none (some j)/\a2m x M7 S7 g7 none j (l+1)/\zD (λ_=>True) Mt M7 St S7/\∀k,(g7 k).length<=(g k).length+(l+1))/\Ext a w7 from⟨hw7,ht7,⟨I4.beside HJ hl2 (sv_of tv) MK.2 B7,a7w hinv.2.1 G4 K4 (.inr B7) B7.grow,(hinv.2.2.1.trans (G4.mono (λ_ _=>trivial))).trans (B7.grow.mono (λ_ _=>trivial)),λk=>by have:=B7.len k;have:=hinv.2.2.2 k;omega⟩,hx7⟩);clear hw7 ht7 hb7 hx7 B7))
      all_goals
       go_wp2_with fail;go_roundw
       case rel=>exact⟨l+1,u7,M7,S7,f7,g7,by omega,by go_num,R.1,R.2.1,R.2.2.1,R.2.2.2⟩
       case measure=>simp [intOf];omega
     ·have R:=uU (show eH w5 a.heap.size bw b r1 bn on x.cells.length u M S/\zN w5 a.heap.size bw r1 r2 bn on u f g'/\(tK x M S g' none (some j)/\a2m x M S g' none j (l+1)/\zD (λ_=>True) Mt M St S/\∀k,(g' k).length<=(g k).length+(l+1))/\Ext a w5 from
       ⟨W4.ext hq5,T4.ext hq5,⟨I4,a7w hinv.2.1 G4 K4 (.inl ⟨c8k tv,rfl,rfl,rfl⟩) (zD.refl (Q:=λ_=>True)),hinv.2.2.1.trans (G4.mono (λ_ _=>trivial)),λk=>by have:=hinv.2.2.2 k;omega⟩,X5⟩)
      clear y3 y4 y5;go_wp2_with fail;go_roundw
      case rel=>exact⟨l+1,u,M,S,f,g',by omega,by go_num,R.1,R.2.1,R.2.2.1,R.2.2.2⟩
      case measure=>simp [intOf];omega
  ·have hl3:l=(x.c j).prs.length:=by omega
   have R:=uU (And.intro (hinv.1.shut (by have:=hinv.2.1;rw[hl3] at this;exact this)) (And.intro hinv.2.2.1 (show ∀k,(g' k).length<=(g k).length+200 from λk=>by have:=hinv.2.2.2 k;omega)));clear hw htt hl3 hinv;go_wp2_with fail
   go_end0
   exact⟨rfl,u,M,S,f,g',HW,HT,R,hbl⟩
def a7e(x:Hp)(Mt:List Nat):Prop:=∀i,i∈Mt->dK x i
theorem a7e.add{y:Wd}{Mt Mt' St St':List Nat}(h:a7e x Mt)(a:b2c x y Mt Mt' St St')(hy:y.k=2->dK x (tgt x y)):a7e x Mt':=λi hi=>by
 rcases a.new hi with q | ⟨k,e,_⟩
 ·exact h i q
 ·rw[e];exact hy k
theorem zN.start(w:World)(bv bn on:Nat)(t:TypeId):zN (((w.alloc (.map #[] 0)).alloc (.map #[] 0)).alloc (.cells #[.pointer (some ⟨bv,0,none⟩),.map (some w.heap.size),.slice none 0 0,.map (some (w.heap.size+1))] t)) w.heap.size (w.heap.size+2) w.heap.size (w.heap.size+1) bn on (.slice none 0 0) (λ_=>.slice none 0 0) (λ_=>[]):=by
 have hm:(((w.alloc (.map #[] 0)).alloc (.map #[] 0)).alloc (.cells #[.pointer (some ⟨bv,0,none⟩),.map (some w.heap.size),.slice none 0 0,.map (some (w.heap.size+1))] t)).heap[w.heap.size+1]?=some (.map #[] 0):=by
  rw[Below.heap_alloc _ _ _ (by simp)];have:=heap_alloc_new (w.alloc (.map #[] 0)) (.map #[] 0)
  simpa using this
 exact⟨by simp [go_sem],⟨#[],0,[],hm,by simp [a3m],List.nodup_nil,λ_ _=>rfl⟩,λ_=>World.ownsRow_nil _ _ _ _,λ_ _ _ _ h=>by simp [Value.ownBlock] at h,λ_ _ h=>by simp [Value.ownBlock] at h,λ_ h=>by simp [Value.ownBlock] at h,λ_ h=>by simp [Value.ownBlock] at h,λ_ h=>by simp [Value.ownBlock] at h,by omega,by omega,by simp [Value.ownBlock],by omega⟩
theorem c5s(x:Hp)(b:Nat)(w:World)(bn on:Nat)(h:VNt w b x ar kr ac (some ⟨bn,on,none⟩) kn)(r2:R2 x)(r4:R4 x)(hn8:x.cells.length<=8000):
  Calls Tryz.prog 120 #[.pointer (some ⟨b,0,none⟩)] w λe w'=>e=.returned (.pointer (some ⟨w.heap.size+2,0,none⟩))/\∃v Mt St,eH w' w.heap.size (w.heap.size+2) b w.heap.size bn on x.cells.length v Mt St/\zN w' w.heap.size (w.heap.size+2) w.heap.size (w.heap.size+1) bn on v (λ_=>.slice none 0 0) (λ_=>[])/\Hid (a7e x Mt/\a6m x x.regs.length Mt/\∀i,i∈Mt->i∈St)/\Ext w w':=by
 have c3:=h.H.c3;have lr:=h.H.lr;have hb:b<w.heap.size:=uL c3;have HV:=uU h;have Q2:=uU r2;have Q4:=uU r4;have hmm:∀(t:TypeId) (w:World),(Instr.makeMap t none).run Tryz.prog w=.ok (.map (some w.heap.size)) (w.alloc (.map #[] 0)):=λ_ _=>rfl
 clear h r2 r4;have c4:=((((Ext.refl w).alloc (.map #[] 0)).alloc (.map #[] 0)).alloc (.cells #[.pointer (some ⟨b,0,none⟩),.map (some w.heap.size),.slice none 0 0,.map (some (w.heap.size+1))] 172)).keep c3;have S0:=uU (eH.start w b bn on x.cells.length 172);have T0:=uU (zN.start w b bn on 172);go_enter Tryz.func120,Tryz.ntmps120;go_wp2_with fail;go_loopw [17] (λi wr=>∃(k:Nat) (v:Value) (Mt St:List Nat),k<=x.regs.length/\i=.int .i64 k/\eH wr w.heap.size (w.heap.size+2) b w.heap.size bn on x.cells.length v Mt St/\zN wr w.heap.size (w.heap.size+2) w.heap.size (w.heap.size+1) bn on v (λ_=>.slice none 0 0) (λ_=>[])/\Hid (a7e x Mt/\a6m x k Mt/\∀i,i∈Mt->i∈St)/\Ext w wr) (λi _=>x.regs.length-(intOf i).toNat)
 case atStart=>exact⟨0,_,[],[],Nat.zero_le _,rfl,S0,T0,⟨(λi hi=>by cases hi),(λj _ hj=>by omega),λi hi=>hi⟩,(((Ext.refl w).alloc _).alloc _).alloc _⟩
 case round=>
  clear S0 T0 c3 c4 hmm;obtain⟨k,v,Mt,St,hk,rfl,hw,hwt,hinv,hbl⟩:=hrel;have HW:=uU hw;have HT:=uU hwt;clear hw hwt;by_cases hlt:k<x.regs.length
  ·have hh:=HV.ext hbl;obtain⟨b',o,rfl,p0,p1,p2⟩:=hh.H.R k hlt;have hb':b'<wr.heap.size:=uL p0;have hk0:(0:Int)<=(k:Int):=by omega
   have hk1:(k:Int)<(x.regs.length:Int):=by omega
   have xa:=(Ext.refl wr).alloc (.cells #[iv x.regs[k].k,iv x.regs[k].n,iv x.regs[k].a] 152);have MY:=uU (a9h Q2 Q4 k hlt);clear hh;go_wp2_with fail;refine(a2w x x.regs[k] b _ bn on (HV.ext (hbl.trans xa)).f Q2 MY).mono ?_;rintro e w2 ⟨t,rfl,ht,hq⟩;have x2:=xa.trans hq;have HQ:=uU ht;clear ht;go_wp2_with fail;refine(a7v x x.regs[k] w.heap.size (w.heap.size+2) b w.heap.size bn on t v Mt St _ (HW.ext x2) MY HQ (hbl.trans x2).size hn8).mono ?_;rintro e w3 ⟨rfl,v',M',S',hw3,ha,hkf⟩
   have R:=uU (show eH w3 w.heap.size (w.heap.size+2) b w.heap.size bn on x.cells.length v' M' S'/\zN w3 w.heap.size (w.heap.size+2) w.heap.size (w.heap.size+1) bn on v' (λ_=>.slice none 0 0) (λ_=>[])/\(a7e x M'/\a6m x (k+1) M'/\∀i,i∈M'->i∈S')/\Ext w w3 from
    ⟨hw3,(HT.ext x2).step hkf,⟨hinv.1.add ha (λe=>dK.reg k hlt e),λj hj hjk e=>by
     by_cases q:j=k
     ·subst q;exact ha.has e
     ·exact ha.sub.1 _ (hinv.2.1 j hj (by omega) e),λi hi=>by
     rcases ha.new hi with q | ⟨_,_,q⟩
     ·exact ha.sub.2 i (hinv.2.2 i q)
     ·exact q⟩,(HW.ext x2).kext hkf (hbl.trans x2)⟩)
   clear hw3 ha hkf;go_wp2_with fail;go_roundw
   case rel=>exact⟨k+1,v',M',S',by omega,by go_num,R.1,R.2.1,R.2.2.1,R.2.2.2⟩
   case measure=>simp [intOf];omega
  ·have hk2:k=x.regs.length:=by omega
   subst hk2;go_wp2_with fail;go_ret;exact⟨rfl,v,Mt,St,HW,HT,hinv,hbl⟩
def CurH(x:Hp)(t:Value)(bn on G0 gk:Nat)(Mt St:List Nat)(g:Nat->List (Option Nat)):Prop:=gk<=G0/\(∀k,(g k).length+200*gk<=200*G0)/\((t=.pointer none/\St=[]/\tK x Mt [] g none none)\/∃j,t=ptr bn (on+j*2)/\j∈Mt/\tK x Mt St g (some j) (some j)/\2*(x.cells.length-Mt.length)+St.length+1<=gk)
theorem b3r(x:Hp)(b:Nat)(w:World)(bn on:Nat)(h:VNt w b x ar kr ac (some ⟨bn,on,none⟩) kn)(r2:R2 x)(r4:R4 x)(hn8:x.cells.length<=8000)(h200:∀i,i<x.cells.length->(x.c i).prs.length<=200)
  (hsp:∀w1,VNt w1 b x ar kr ac (some ⟨bn,on,none⟩) kn->Calls Tryz.prog 102 #[.pointer (some ⟨b,0,none⟩)] w1 λe w'=>∃(g:Option Addr) (cap:Nat) (Ls:List Nat),Hid (e=.returned (.slice g Ls.length cap))/\Hid (b5u x w1 w' g bn on Ls)/\Ext w1 w') :
  Calls Tryz.prog 72 #[.pointer (some ⟨b,0,none⟩)] w λe w'=>e=.returned (Value.map (some w.heap.size))/\∃Mt:List Nat,zQ w' w.heap.size bn (Mt.map (λi=>on+i*2))/\w.heap.size<w'.heap.size/\Hid (∀i,i∈Mt↔dK x i)/\Ext w w':=by
 have HV:=uU h;have Q2:=uU r2;have Q4:=uU r4;have SP:=uU hsp;clear h r2 r4 hsp;go_enter Tryz.func72,Tryz.ntmps72;go_wp2_with fail;refine(c5s x b _ bn on HV Q2 Q4 hn8).mono ?_;rintro e w1 ⟨rfl,v1,M1,S1,hw1,ht1,i1,x1⟩;have W1:=uU hw1;have T1:=uU ht1;clear hw1 ht1;go_wp2_with fail;refine(SP _ (HV.ext x1)).mono ?_;rintro e w2 ⟨g,cap,Ls,rfl,hans,x12⟩;have x2:=x1.trans x12;have A0:=uU (And.intro (W1.ext x12) (And.intro (hans.at W1) (T1.ext x12)));have hLs:Ls.length<=8000:=hans.2.1;have LI:=uU hans.2.2;clear W1 T1 hans x12;go_wp2_with fail;go_loopw [12] (λi wr=>∃(k:Nat) (v:Value) (Mt St:List Nat),k<=Ls.length/\i=.int .i64 k/\eH wr w.heap.size (w.heap.size+2) b w.heap.size bn on x.cells.length v Mt St/\zN wr w.heap.size (w.heap.size+2) w.heap.size (w.heap.size+1) bn on v (λ_=>.slice none 0 0) (λ_=>[])/\Hid (a7e x Mt/\a6m x x.regs.length Mt/\(∀i,i∈Mt->i∈St)/\∀j (h:j<Ls.length),j<k->(x.c Ls[j]).last=2->Ls[j]∈Mt)/\Hid (b9b wr g (w.heap.size+2) w.heap.size v bn on Ls)/\Ext w wr) (λi _=>Ls.length-(intOf i).toNat)
 case atStart=>exact⟨0,v1,M1,S1,Nat.zero_le _,rfl,A0.1,A0.2.2,⟨i1.1,i1.2.1,i1.2.2,λj _ hj=>by omega⟩,A0.2.1,x2⟩
 case round=>
  clear A0 i1 x1 x2;obtain⟨k,v,Mt,St,hk,rfl,hw,htt,hinv,hsa,hbl⟩:=hrel;have HW:=uU hw;have HT:=uU htt;clear hw htt;by_cases hlt:k<Ls.length
  ·obtain⟨gb,go,hg,gc,g1,g2,g3⟩:=hsa k hlt;subst hg;have hk0:(0:Int)<=(k:Int):=by omega
   have hk1:(k:Int)<(Ls.length:Int):=by omega
   have HI:=uU ((LI Ls[k]).1 (List.getElem_mem hlt));clear g1 g2 g3;obtain⟨j,ej⟩:∃j,j=Ls[k]:=⟨_,rfl⟩;rw[<-ej] at gc HI;have hjn:=HI.1;obtain⟨bc,oc,ap,kp,e1,C⟩:=HV.H.cell j hjn;obtain⟨bn',on',bc',oc',e2,e3,m0,m1'⟩:=HV.N j hjn;rw[e1] at e3;cases e2;cases e3;have p3:=hbl.keep C.p3;have m1:=hbl.keep m1';have EJ:=uU ej;clear C m0 m1' e1 ej;cases tl:((x.c j).last == 2)
   ·have R:=uU (show ∀q (h:q<Ls.length),q<k+1->(x.c Ls[q]).last=2->Ls[q]∈Mt from λq hq hqk e=>by
     by_cases z:q=k
     ·subst z;rw[<-uH EJ] at e;simp at tl;exact(tl e).elim
     ·exact hinv.2.2.2 q hq (by omega) e)
    go_wp2_with fail;go_roundw
    case rel=>exact⟨k+1,v,Mt,St,by omega,by go_num,HW,HT,⟨hinv.1,hinv.2.1,hinv.2.2.1,R⟩,hsa,hbl⟩
    case measure=>simp [intOf];omega
   ·have hl2:(x.c j).last=2:=by simpa using tl
    have HL:=uU hl2;clear hl2;go_wp2_with fail;refine(a9s w.heap.size (w.heap.size+2) b w.heap.size bn on x.cells.length j v Mt St _ HW hjn hbl.size hn8).mono ?_;rintro e w3 ⟨rfl,v',M',S',hw3,ha,hkf⟩
    have R:=uU (show eH w3 w.heap.size (w.heap.size+2) b w.heap.size bn on x.cells.length v' M' S'/\zN w3 w.heap.size (w.heap.size+2) w.heap.size (w.heap.size+1) bn on v' (λ_=>.slice none 0 0) (λ_=>[])/\(a7e x M'/\a6m x x.regs.length M'/\(∀i,i∈M'->i∈S')/\∀j (h:j<Ls.length),j<k+1->(x.c Ls[j]).last=2->Ls[j]∈M')/\b9b w3 (some ⟨gb,go,none⟩) (w.heap.size+2) w.heap.size v' bn on Ls/\Ext w w3 from by
     have G:=b0w ha;refine⟨hw3,HT.step hkf,⟨λi hi=>?_,λj hj hjk e=>G.1.m _ (hinv.2.1 j hj hjk e),λi hi=>?_,λq hq hqk e=>?_⟩,hsa.step hkf,HW.kext hkf hbl⟩
     ·rcases G.1.n i hi with q | ⟨q,_⟩
      ·exact hinv.1 i q
      ·rw[q];exact dK.due j hjn HL
     ·rcases G.1.n i hi with q | ⟨_,q⟩
      ·exact G.1.s i (hinv.2.2.1 i q)
      ·exact q
     ·by_cases z:q=k
      ·subst z;rw[<-uH EJ];exact G.2
      ·exact G.1.m _ (hinv.2.2.2 q hq (by omega) e))
    clear hw3 ha hkf gc p3 m1;go_wp2_with fail;go_roundw
    case rel=>exact⟨k+1,v',M',S',by omega,by go_num,R.1,R.2.1,R.2.2.1,R.2.2.2.1,R.2.2.2.2⟩
    case measure=>simp [intOf];omega
  ·have hk2:k=Ls.length:=by omega
   have I0:=uU (show tK x Mt St (λ_=>[]) none none from⟨hinv.1,hinv.2.1,λi hi hs=>by
    obtain⟨j,hj,e⟩:=List.getElem_of_mem ((LI i).2 ⟨hi,.inr hs⟩);have:=hinv.2.2.2 j hj (by omega) (by rw[e];exact hs);rw[e] at this;exact this,(λ_ _ h=>by cases h),(λ_ _ h=>by cases h),λi hi=>.inl (hinv.2.2.1 i hi)⟩)
   clear hinv hsa LI hk2;go_wp2_with fail;refine(a9t w.heap.size (w.heap.size+2) b w.heap.size bn on x.cells.length v Mt St _ HW hn8).mono ?_;rintro e w3 ⟨t,v3,S3,rfl,hw3,ht,hkf⟩;have hle:=HW.len
   have R:=uU (show eH w3 w.heap.size (w.heap.size+2) b w.heap.size bn on x.cells.length v3 Mt S3/\zN w3 w.heap.size (w.heap.size+2) w.heap.size (w.heap.size+1) bn on v3 (λ_=>.slice none 0 0) (λ_=>[])/\CurH x t bn on (3*x.cells.length+1) (3*x.cells.length+1) Mt S3 (λ_=>[])/\Ext w w3 from by
    refine⟨hw3,HT.step hkf,⟨Nat.le_refl _,λk=>by simp,?_⟩,HW.kext hkf hbl⟩;rcases uH ht with⟨e,e1,e2⟩ | ⟨j,e,e1⟩
    ·have:=uH I0;rw[e1] at this;exact .inl ⟨e,e2,this⟩
    ·have hI:=uH I0;rw[e1] at hI;have hl:=hw3.len;exact .inr ⟨j,e,HW.sub j (by rw[e1];simp),hI.take,by omega⟩)
   clear hw3 ht hkf HW HT I0 hle hbl;go_wp2_with fail
   go_loopg [6] (3*x.cells.length+1) (λgk t wr=>∃(v:Value) (Mt St:List Nat) (f:Nat->Value) (g:Nat->List (Option Nat)),eH wr w.heap.size (w.heap.size+2) b w.heap.size bn on x.cells.length v Mt St/\zN wr w.heap.size (w.heap.size+2) w.heap.size (w.heap.size+1) bn on v f g/\Hid (CurH x t bn on (3*x.cells.length+1) gk Mt St g)/\Ext w wr)
   case atStart=>exact⟨v3,Mt,S3,_,_,R.1,R.2.1,R.2.2.1,R.2.2.2⟩
   case round=>
    clear R;obtain⟨v,Mt,St,f,g,hw,htt,hcur,hbl⟩:=hrel;have HW:=uU hw;have HT:=uU htt;obtain⟨hgk,hlen,hcr⟩:=uH hcur;rcases hcr with⟨rfl,rfl,hI⟩ | ⟨j,rfl,hj,hI,hgj⟩
    ·have c1:=hw.c1;have F:=uU (And.intro hw.m (And.intro hw.rlt.2 hI.done));clear hw htt hcur hI hlen;go_wp2_with fail;go_ret;exact⟨rfl,Mt,F.1,F.2.1,F.2.2,hbl⟩
    ·have hjn:j<x.cells.length:=hw.rg j hj;have LEN:=uU hlen;have HI:=uU hI;have HJ:=uU hj;have hp:=h200 j hjn;clear hw htt hcur hI hlen hj;go_wp2_with fail;refine(b9h w (w.heap.size+2) b w.heap.size (w.heap.size+1) bn on x.cells.length j v f g Mt St _ HW HT (λi hi=>HI.wl j i hi) hbl hn8 (by have:=uH LEN j;omega)).mono ?_;rintro e w3 ⟨rfl,v3,M3,S3,hw3,ht3,hg3,hx3⟩;have W3:=uU hw3;have T3:=uU ht3;have I3:=uU ((HI.grow hg3.1 (λi hi=>HI.wh j i hi (HI.only j HJ))).freed hg3.2);have J3:=uU (hg3.1.m j HJ);have G3:=uU hg3.1;have X3:=uU hx3;clear hw3 ht3 hg3 hx3;go_wp2_with fail;refine(c8m x w b (w.heap.size+2) w.heap.size (w.heap.size+1) bn on j v3 f g M3 S3 _ HV Q2 Q4 hp W3 T3 I3 J3 X3 hn8 (λk=>by have:=uH LEN k;omega)).mono ?_;rintro e w4 ⟨rfl,v4,M4,S4,f4,g4,hw4,ht4,hi4,hx4⟩;have W4:=uU hw4;have T4:=uU ht4;have I4:=uU hi4;have X4:=uH hx4;clear hw4 ht4 hi4 hx4;go_wp2_with fail;refine(a9t w.heap.size (w.heap.size+2) b w.heap.size bn on x.cells.length v4 M4 S4 _ W4 hn8).mono ?_;rintro e w5 ⟨t,v5,S5,rfl,hw5,ht5,hkf⟩;obtain⟨gk',hgk'⟩:∃g,gk=g+1:=⟨gk-1,by omega⟩
     have R:=uU (show eH w5 w.heap.size (w.heap.size+2) b w.heap.size bn on x.cells.length v5 M4 S5/\zN w5 w.heap.size (w.heap.size+2) w.heap.size (w.heap.size+1) bn on v5 f4 g4/\CurH x t bn on (3*x.cells.length+1) gk' M4 S5 g4/\Ext w w5 from by
      refine⟨hw5,T4.step hkf,⟨by omega,λk=>?_,?_⟩,W4.kext hkf X4⟩
      ·have:=I4.2.2 k;have:=uH LEN k;omega
      ·have hI:=I4.1
       have wg:2*(x.cells.length-M4.length)+S4.length<=2*(x.cells.length-Mt.length)+St.length:=by
        have a1:=G3.w;have a2:=I4.2.1.w;have a3:=W4.len;have a4:=W3.len;have a5:=G3.l;have a6:=I4.2.1.l;omega
       rcases uH ht5 with⟨e,e1,e2⟩ | ⟨i,e,e1⟩
       ·rw[e1] at hI;exact .inl ⟨e,e2,hI⟩
       ·have hm:i∈M4:=W4.sub i (by rw[e1];simp);rw[e1] at hI wg;simp only [List.length_append,List.length_singleton] at wg;exact .inr ⟨i,e,hm,hI.take,by omega⟩)
     have G:=uU hgk';clear hw5 ht5 hkf W4 T4 I4 X4 hgk';go_wp2_with fail
     go_roundg gk'
     case measure=>have:=uH G;omega
     case rel=>exact⟨v5,M4,S5,f4,g4,R.1,R.2.1,R.2.2.1,R.2.2.2⟩
def a9x(x:Hp)(r:Nat):Prop:=(eU x 0/\∃p:Nat->Bool,(∀i,p i=true↔dK x i)/\r=qY x p x.cells.length)\/(¬eU x 0/\r=0)
theorem a9x.uniq{r s:Nat}(h:a9x x r)(k:a9x x s):r=s:=by
 rcases h with⟨h,p,hp,e⟩ | ⟨h,e⟩ <;> rcases k with⟨k,q,hq,f⟩ | ⟨k,f⟩
 ·rw[e,f];exact b1p (λi=>by rw[Bool.eq_iff_iff,hp,hq]) _
 ·exact(k h).elim
 ·exact(h k).elim
 ·rw[e,f]
theorem b2d(x:Hp)(w:World){ac:Option Addr}{kc:Nat}{ag:Option Addr}{kg:Nat}(hR:SlW w (.slice ar x.regs.length kr) x.regs)(hC:SlC w (.slice ac x.cells.length kc) x.cells)(hG:SlI w (.slice ag x.gray.length kg) x.gray)(hcap:a2k w x ac):
  Calls Tryz.prog 25 #[x.v (.slice ar x.regs.length kr) (.slice ac x.cells.length kc) (.slice ag x.gray.length kg)] w λe w'=>∃r:Nat,Hid (e=.returned (.int .i64 (r:Int)))/\a9x x r/\Ext w w':=by
 have x1:=(Ext.refl w).alloc (.cells #[iv x.room,iv x.used,iv x.born,.slice ar x.regs.length kr,.slice ac x.cells.length kc,iv x.phase,iv x.hand,iv x.sub,.slice ag x.gray.length kg,iv x.per,iv x.start,iv x.rounds,iv x.forced] 34);have S1:=uU (SlW.ext x1 hR);have S2:=uU (SlC.ext x1 hC);have S3:=uU (SlI.ext x1 hG);have S4:=uU (hcap.extS hC x1);clear hR hC hG hcap;go_enter Tryz.func25,Tryz.ntmps25;go_wp2_with fail;refine(a5d x _ S1 S2 S3 S4).mono ?_;rintro e w2 ⟨hq,hor⟩;have x2:=x1.trans hq;rcases uH hor with⟨hn,rfl⟩ | ⟨hok,b,an,kn,rfl,hv,han⟩
 ·have N:=uU (show a9x x 0 from .inr ⟨hn,rfl⟩);clear hor hn;go_wp2_with fail;go_ret;exact⟨0,rfl,N,x2⟩
 ·obtain⟨bn,on,rfl⟩:=uH han;have OK:=uU hok;have V:=uU hv;clear hor hok hv han;go_wp2_with fail;refine(b3r x b _ bn on V.vn OK.all.2.1 OK.all.2.2.2 OK.n8 OK.p200 (λw1 h1=>a3r x b w1 bn on h1 OK.n8)).mono ?_;rintro e w3 ⟨rfl,Mt,hm,hlt,hr,hq3⟩;have x3:=x2.trans hq3;have M:=uU hm;clear hm;go_wp2_with fail;refine(sum_any x b w2.heap.size Mt _ bn on (V.ext hq3).vn M hlt OK.n8 OK.p200).mono ?_;rintro e w4 ⟨u,rfl,hu,hq4⟩;have x4:=x3.trans hq4;go_wp2_with fail;go_ret;exact⟨u,rfl,.inl ⟨OK,_,λi=>by simpa using uH hr i,hu⟩,x4⟩
structure Cpl(w w4 wr:World)(x:Hp)(vr vc vg:Value)(pv vp:Nat->Value)(k:Nat):Prop where
 bx:dY wr w.heap.size x vr vc vg
 s:∀q,q<x.cells.length->S7 wr (eJ vc) (q*8) (x.c q)
 p7:∀q,q<x.cells.length->wr.cell? ⟨eJ vc,q*8+7,none⟩=some (if q<k then pv q else vp q)
 pr:∀q,q<x.cells.length->q<k->wr.ownsRow w4.heap.size 154 6 (pv q) (x.c q).prs.length ((x.c q).prs.flatMap fP)
 dp:∀q q',q<k->q'<k->q≠q'->∀b,(pv q).ownBlock=some b->(pv q').ownBlock≠some b
 on:uX (λq=>q=eJ vc/\0<x.cells.length) w4 wr
 nf:0<x.cells.length->Nf1 (eJ vc) wr
theorem Cpl.step{wr w5:World}{v':Value}{pv vp:Nat->Value}{k:Nat}(h:Cpl w w4 wr x vr vc vg pv vp k)(hk:k<x.cells.length)(hvc:w.heap.size+2<=eJ vc/\eJ vc<w4.heap.size)(e:Ext wr w5)(ho:w5.ownsRow wr.heap.size 154 6 v' (x.c k).prs.length ((x.c k).prs.flatMap fP)):
  Cpl w w4 (w5.setCell ⟨eJ vc,k*8+7,none⟩ v') x vr vc vg (λq=>if q=k then v' else pv q) vp (k+1):=by
 have h4:=h.on.size;have far:∀b,b≠eJ vc->(w5.setCell ⟨eJ vc,k*8+7,none⟩ v').heap[b]?=w5.heap[b]?:=λb hb=>Below.heap_setCell _ _ _ _ hb
 refine⟨(h.bx.ext e).far _ _ _ (.inl (by omega)),λq hq=>?_,λq hq=>?_,λq hq hqk=>?_,λq q' hq hq' hne b hb=>?_,?_,λhn=>((h.nf hn).ext e).set _ _⟩
 ·refine(h.s q hq).of λj hj=>?_
  rw[uC _ (.inr (by omega))];exact e.cell (p:=⟨eJ vc,_,none⟩) (by show eJ vc<_;omega)
 ·by_cases hqk:q=k
  ·subst hqk;rw[if_pos (by omega),if_pos rfl];exact World.cell?_setCell_same _ _ _ (e.keep (h.p7 q hq))
  ·rw[uC _ (.inr (by omega)),if_neg hqk];have:=e.keep (h.p7 q hq);rw[this];by_cases hlt:q<k
   ·rw[if_pos hlt,if_pos (by omega)]
   ·rw[if_neg hlt,if_neg (by omega)]
 ·by_cases hqe:q=k
  ·subst hqe;simp only [if_pos];exact a3y (uN ho (λb hb=>far b (by have:=(ho.lt b hb).1;omega))) h4
  ·simp only [if_neg hqe];have hq2:=h.pr q hq (by omega);exact uN hq2 (λb hb=>(far b (by have:=(hq2.lt b hb).1;omega)).trans (e.block b (hq2.lt b hb).2))
 ·by_cases h1:q=k <;> by_cases h2:q'=k
  ·omega
  ·rw[if_pos h1] at hb;rw[if_neg h2];intro hb';have:=(ho.lt b hb).1;have:=((h.pr q' (by omega) (by omega)).lt b hb').2;omega
  ·rw[if_neg h1] at hb;rw[if_pos h2];intro hb';have:=(ho.lt b hb').1;have:=((h.pr q (by omega) (by omega)).lt b hb).2;omega
  ·rw[if_neg h1] at hb;rw[if_neg h2];exact h.dp q q' (by omega) (by omega) hne b hb
 ·exact(h.on.trans (uX.of_ext e)).setCell ⟨rfl,by omega⟩ _
theorem CvAt.ext{w w':World}(e:Ext w w'){b o:Nat}{z:Cl×Value}(h:CvAt w b o z):CvAt w' b o z:=λj hj=>by
 have:=h j hj;cases hc:(fC z)[j]? with
 | none=>match j,hj with | 0,_ | 1,_ | 2,_ | 3,_ | 4,_ | 5,_ | 6,_ | 7,_=>simp [fC] at hc
 | some y=>rw[hc] at this;exact e.keep this
theorem Cpl.start{v4:Value}{L:List (Cl×Value)}(hL:L.map (·.1)=x.cells)(hb:dY w4 w.heap.size x vr v4 vg)(ho:w4.ownsRow B 62 8 vc L.length (L.flatMap fC))(hB:w.heap.size<B):
  Cpl w (w4.setCell ⟨w.heap.size,4,none⟩ vc) (w4.setCell ⟨w.heap.size,4,none⟩ vc) x vr vc vg (λ_=>.slice none 0 0) (λq=>(L.getD q (Cl0,.slice none 0 0)).2) 0:=by
 have hLl:L.length=x.cells.length:=by rw[<-hL,List.length_map]
 have hc:∀q,q<x.cells.length->∀j,j<8->(w4.setCell ⟨w.heap.size,4,none⟩ vc).cell? ⟨eJ vc,q*8+j,none⟩=(fC (L.getD q (Cl0,.slice none 0 0)))[j]?:=λq hq j hj=>by
  have h1:=b0j ho (by omega);rw[uC _ (.inl (by have:=h1.2;omega)),a8i (f:=fC) (λ_=>rfl) ho q (by omega) j hj]
  congr 2
  simp [hLl,hq]
 have h1:∀q,q<x.cells.length->(L.getD q (Cl0,.slice none 0 0)).1=x.c q:=λq hq=>by
  have e:x.cells[q]=(L.map (·.1))[q]'(by simpa [hLl] using hq):=by simp [hL]
  rw[<-Hp.c_eq x q hq,e];simp [hLl,hq]
 refine⟨hb.set4 vc,λq hq=>?_,λq hq=>?_,λq _ hq=>by omega,λq q' hq=>by omega,uX.refl _ _,λhn=>(b0j ho (by omega)).1.set _ _⟩
 ·have:=hc q hq;rw[<-h1 q hq];exact⟨this 0 (by omega),this 1 (by omega),this 2 (by omega),this 3 (by omega),this 4 (by omega),this 5 (by omega),this 6 (by omega)⟩
 ·rw[if_neg (by omega)];exact hc q hq 7 (by omega)
def CapP(x:Hp)(pk:Nat->Nat):Prop:=∀q,q<x.cells.length->(x.c q).prs.length<=pk q
theorem c8p{t:TypeId}{c n:Nat}{v:Value}{xs:List Value}(h:w.ownsRow B t c v n xs):n<=yY v:=by
 rcases h.2 with⟨rfl,rfl⟩ | ⟨g,cap,cur,rfl,_,_,h4,_⟩
 ·exact Nat.le_refl _
 ·exact h4
def HOwn(B:Nat)(w:World)(x:Hp)(vr vc:Value):Prop:=∃br bc pb pa pk ar kr ac kc,vr=.slice ar x.regs.length kr/\(0<x.regs.length->ar=some ⟨br,0,none⟩)/\vc=.slice ac x.cells.length kc/\(0<x.cells.length->ac=some ⟨bc,0,none⟩)/\Rws B w x br bc pb pa pk/\CapP x pk
theorem c2a(x:Hp)(ag:Option Addr)(ng kg:Nat)(w:World){ar:Option Addr}{kr:Nat}{ac:Option Addr}{kc:Nat}(hR:SlW w (.slice ar x.regs.length kr) x.regs)(hC:SlC w (.slice ac x.cells.length kc) x.cells)(n1:x.regs.length<=1048576)(n2:x.cells.length<=8000)(n3:∀q,q<x.cells.length->(x.c q).prs.length<=200):
  Calls Tryz.prog 139 #[x.v (.slice ar x.regs.length kr) (.slice ac x.cells.length kc) (.slice ag ng kg)] w λe w'=>∃vr vc,e=.returned (x.v vr vc (.slice ag ng kg))/\Hid (HOwn w.heap.size w' x vr vc)/\Ext w w':=by
 obtain⟨L,hL,hLs,hLp⟩:=c7f hC;have hLl:L.length=x.cells.length:=by rw[<-hL,List.length_map]
 have HLS:=uU hLs;have HLP:=uU hLp;have HL:=uU hL;have SR:=uU hR;clear hR hC hL hLs hLp;have xa:=((Ext.refl w).alloc (.cells #[iv x.room,iv x.used,iv x.born,.slice ar x.regs.length kr,.slice ac x.cells.length kc,iv x.phase,iv x.hand,iv x.sub,(.slice ag ng kg),iv x.per,iv x.start,iv x.rounds,iv x.forced] 34)).alloc (.cells #[iv 0,iv 0,iv 0,.slice none 0 0,.slice none 0 0,iv 0,iv 0,iv 0,.slice none 0 0,iv 0,iv 0,iv 0,iv 0] 34);have B2:=(dY.new w x (.slice ar x.regs.length kr) (.slice ac x.cells.length kc) (.slice ag ng kg) 34).ext ((Ext.refl _).alloc (.cells #[iv 0,iv 0,iv 0,.slice none 0 0,.slice none 0 0,iv 0,iv 0,iv 0,.slice none 0 0,iv 0,iv 0,iv 0,iv 0] 34));go_enter Tryz.func139,Tryz.ntmps139;go_wp2_with fail;refine(c0z x.regs _ _ (SlW.ext xa SR) n1).mono ?_;rintro e w3 ⟨vr,rfl,hor,q3⟩;obtain⟨avr,kvr,hvr⟩:∃a k,vr=.slice a x.regs.length k:=⟨_,_,(a0n hor).1⟩;subst hvr;have hz3:w.heap.size+2<=w3.heap.size:=by have:=q3.size;simp at this;omega
 have B3:=uU (B2.ext q3);have X3:=xa.trans q3;have OR:=uU hor;have c3:=B3.2.2.2.1;have c4:=B3.2.2.2.2.1;have fz:∀o,w3.frozen? ⟨w.heap.size,o,none⟩=false:=λo=>((dH q3).2 w.heap.size o (by simp;omega)).trans (by simp [go_sem])
 have f3:=fz 3;have FZ:=uU fz;have rc:=uU (show ∀o v,((w.alloc (.cells #[iv x.room,iv x.used,iv x.born,.slice ar x.regs.length kr,.slice ac x.cells.length kc,iv x.phase,iv x.hand,iv x.sub,(.slice ag ng kg),iv x.per,iv x.start,iv x.rounds,iv x.forced] 34)).alloc (.cells #[iv 0,iv 0,iv 0,.slice none 0 0,.slice none 0 0,iv 0,iv 0,iv 0,.slice none 0 0,iv 0,iv 0,iv 0,iv 0] 34)).cell? ⟨w.heap.size+1,o,none⟩=some v->w3.cell? ⟨w.heap.size+1,o,none⟩=some v from λo v h=>q3.keep h);have RF:=uU (show ∀o,w3.frozen? ⟨w.heap.size+1,o,none⟩=false from λo=>((dH q3).2 (w.heap.size+1) o (by simp)).trans (by simp [go_sem]));clear hor fz B2 q3;go_wp2_with fail;have X3s:Ext w (w3.setCell ⟨w.heap.size,3,none⟩ (.slice avr x.regs.length kvr)):=X3.setCell (Nat.le_refl _) _;refine(c1c L _ _ (by rw[<-hLl];exact(show yN (CvAt _) 8 (.slice ac L.length kc) L from by have:=uH HLS;rw[<-hLl] at this;exact this.mono λ_ _ _ k=>k.ext X3s)) (λz hz=>slP_one (HLP z hz)) (by omega)).mono ?_;rintro e w4 ⟨vc,rfl,hoc,q4⟩;obtain⟨avc,kvc,hvc⟩:∃a k,vc=.slice a x.cells.length k:=⟨_,_,by have:=(a0n hoc).1;rw[hLl] at this;exact this⟩;subst hvc;have hs3:(w3.setCell ⟨w.heap.size,3,none⟩ (.slice avr x.regs.length kvr)).heap.size=w3.heap.size:=by simp [World.setCell]
 have B4:=uU ((B3.set3 (.slice avr x.regs.length kvr)).ext q4);have ST:=uU (Cpl.start HL B4 hoc (by omega));have CB:=uU (a0n hoc).2;have CN:=uU (λh=>b0j hoc h);have hz4:w3.heap.size<=w4.heap.size:=by have:=q4.size;omega
 have d4:=B4.2.2.2.2.1;have g4:w4.frozen? ⟨w.heap.size,4,none⟩=false:=((dH q4).2 w.heap.size 4 (by omega)).trans (by rw[World.frozen?_setCell];exact FZ 4);have FZ4:=uU (show ∀o,w4.frozen? ⟨w.heap.size,o,none⟩=false from λo=>((dH q4).2 w.heap.size o (by omega)).trans (by rw[World.frozen?_setCell];exact FZ o));have X4:=X3s.trans q4;have Q4:=uU q4;clear hoc q4 c3 c4 f3 X3s;go_wp2_with fail;obtain⟨W5,hW5⟩:∃W,W=w4.setCell ⟨w.heap.size,4,none⟩ (.slice avc x.cells.length kvc):=⟨_,rfl⟩;rw[<-hW5] at ST ⊢;have s5:W5.heap.size=w4.heap.size:=by rw[hW5];simp [World.setCell]
 have X5:Ext w W5:=by rw[hW5];exact X4.setCell (Nat.le_refl _) _
 have HW5:=uU hW5;clear hW5 d4 g4;go_loopw [15] (λi wr=>∃(k:Nat) (pv:Nat->Value),k<=x.cells.length/\i=.int .i64 k/\Hid (Cpl w W5 wr x (.slice avr x.regs.length kvr) (.slice avc x.cells.length kvc) (.slice ag ng kg) pv (λq=>(L.getD q (Cl0,.slice none 0 0)).2) k)) (λi _=>x.cells.length-(intOf i).toNat)
 case atStart=>exact⟨0,_,Nat.zero_le _,rfl,ST⟩
 case round=>
  clear ST;obtain⟨k,pv,hk,rfl,hcp⟩:=hrel;by_cases hlt:k<x.cells.length
  ·obtain⟨bc,hbc⟩:∃bc,avc=some ⟨bc,0,none⟩:=⟨_,(CB (by omega)).1⟩;subst hbc;have hbc0:w3.heap.size<=bc/\bc<w4.heap.size:=by have h1:=(CN (by omega)).2;have h2:=(CN (by omega)).1.1;rw[hs3] at h1;exact⟨h1,h2⟩
   have XR:Ext w wr:=hcp.on.ext X5 (λq hq e=>by have e1:q=bc:=e.1;omega)
   have hm:L.getD k (Cl0,.slice none 0 0)∈L:=by
    have:L.getD k (Cl0,.slice none 0 0)=L[k]'(by omega):=by simp [hLl,hlt]
    rw[this];exact List.getElem_mem _
   have h1:(L.getD k (Cl0,.slice none 0 0)).1=x.c k:=by
    have e:x.cells[k]=(L.map (·.1))[k]'(by simpa [hLl] using hlt):=by simp [uH HL]
    rw[<-Hp.c_eq x k hlt,e];simp [hLl,hlt]
   have sp0:=uH HLP _ hm;rw[h1] at sp0;obtain⟨apk,kpk,hvk⟩:∃a c,(L.getD k (Cl0,.slice none 0 0)).2=.slice a (x.c k).prs.length c:=let ⟨a,c,e,_⟩:=sp0;⟨a,c,e⟩;rw[hvk] at sp0;have SP:=uU sp0
   have p7:wr.cell? ⟨bc,k*8+7,none⟩=some (.slice apk (x.c k).prs.length kpk):=by
    have:=hcp.p7 k hlt;rw[if_neg (by omega),hvk] at this;exact this
   have c4:wr.cell? ⟨w.heap.size,4,none⟩=some (.slice (some ⟨bc,0,none⟩) x.cells.length kvc):=hcp.bx.2.2.2.2.1;have f7:wr.frozen? ⟨bc,k*8+7,none⟩=false:=(hcp.nf (by omega)).2 _;have hl2:=n3 k hlt;have hbw:bc<wr.heap.size:=uL p7;have hk0:(0:Int)<=(k:Int):=by omega
   have hk1:(k:Int)<(x.cells.length:Int):=by omega
   have hne:¬w.heap.size=bc:=by omega
   have hne2:¬bc=w.heap.size:=by omega
   clear sp0 hm h1;go_wp2_with fail;go_region_with (go_at_call 212;refine(c1a (x.c k).prs _ _ (SlP.ext XR.drew SP) (by omega)).mono ?_;rintro e w6 ⟨v',rfl,hop,q6⟩;obtain⟨a',k',hv'⟩:∃a c,v'=.slice a (x.c k).prs.length c:=⟨_,_,(a0n hop).1⟩;subst hv';have q6:=Ext.trans ((Ext.refl wr).drew) q6;have d4:=q6.keep c4;have d7:=q6.keep p7;have g7:=((dH q6).2 bc (k*8+7) hbw).trans f7;have R:=uU (hcp.step hlt ⟨by show w.heap.size+2<=bc;omega,by show bc<_;omega⟩ q6 hop);clear hop q6)
   all_goals
    go_wp2_with fail;go_roundw
    case rel=>exact⟨k+1,_,by omega,by go_num,R⟩
    case measure=>simp [intOf];omega
  ·have hk2:k=x.cells.length:=by omega
   subst hk2
   have XR:Ext w wr:=hcp.on.ext X5 (λq hq e=>by
    have e1:q=eJ (.slice avc x.cells.length kvc):=e.1;have h1:=(CN (by have:=e.2;omega)).2;rw[hs3] at h1;omega)
   have hvc3:0<x.cells.length->w3.heap.size<=eJ (.slice avc x.cells.length kvc)/\eJ (.slice avc x.cells.length kvc)<w4.heap.size:=λh=>by
    have h1:=(CN (by omega)).2;rw[hs3] at h1;exact⟨h1,(CN (by omega)).1.1⟩
   have WB:∀b,b<w3.heap.size->b≠w.heap.size->wr.heap[b]?=w3.heap[b]?:=λb hb hne=>by
    have e1:w4.heap[b]?=w3.heap[b]?:=(Q4.block b (by rw[hs3];exact hb)).trans (Below.heap_setCell _ _ _ _ hne);have e2:W5.heap[b]?=w4.heap[b]?:=by rw[uH HW5];exact Below.heap_setCell _ _ _ _ hne
    exact(hcp.on.block b (by omega) (λe=>by have e1:b=eJ (.slice avc x.cells.length kvc):=e.1;have:=(hvc3 e.2).1;omega)).trans (e2.trans e1)
   have RW:=uU (show Rws (w.heap.size+2) wr x _ _ _ _ _ from by
    have hb0:∀b,(Value.slice avr x.regs.length kvr).ownBlock=some b->w.heap.size+2<=b/\b<w3.heap.size:=λb hb=>by have:=OR.lt b hb;simp at this;omega
    have hvb:eJ (.slice avr x.regs.length kvr)<w3.heap.size:=by
     unfold eJ;cases e:(Value.slice avr x.regs.length kvr).ownBlock with
     | none=>simp;omega
     | some b=>simp;exact(hb0 b e).2
    refine Rws.of (vr:=.slice avr x.regs.length kvr) (bc:=eJ (.slice avc x.cells.length kvc)) (pv:=pv) (uN (a3y OR (by simp)) (λb hb=>WB b (hb0 b hb).2 (by have:=(hb0 b hb).1;omega))) hcp.s (λq hq=>by have:=hcp.p7 q hq;rw[if_pos hq] at this;exact this) (λh=>⟨hcp.nf h,by have:=(hvc3 h).1;omega⟩) (λh=>by have:=(hvc3 h).1;omega) (λq hq=>⟨a3y (hcp.pr q hq hq) (by omega),λb hb=>?_⟩) (λq q' hq hq' hne b hb=>hcp.dp q q' hq hq' hne b hb);have h1:=((hcp.pr q hq hq).lt b hb).1;have h2:=hvc3 (by omega);omega)
   have RG:=uU (a0n OR).2;have CP:=uU (show CapP x (λq=>yY (pv q)) from λq hq=>c8p (hcp.pr q hq hq))
   have rcell:∀o v,((w.alloc (.cells #[iv x.room,iv x.used,iv x.born,.slice ar x.regs.length kr,.slice ac x.cells.length kc,iv x.phase,iv x.hand,iv x.sub,(.slice ag ng kg),iv x.per,iv x.start,iv x.rounds,iv x.forced] 34)).alloc (.cells #[iv 0,iv 0,iv 0,.slice none 0 0,.slice none 0 0,iv 0,iv 0,iv 0,.slice none 0 0,iv 0,iv 0,iv 0,iv 0] 34)).cell? ⟨w.heap.size+1,o,none⟩=some v->wr.cell? ⟨w.heap.size+1,o,none⟩=some v:=λo v h=>
    (World.cell?_of_block (a:=⟨w.heap.size+1,o,none⟩) (WB (w.heap.size+1) (by omega) (by omega))).trans (rc o v h)
   have rfz:∀o,wr.frozen? ⟨w.heap.size+1,o,none⟩=false:=λo=>(World.frozen?_of_block (a:=⟨w.heap.size+1,o,none⟩) (WB (w.heap.size+1) (by omega) (by omega))).trans (RF o)
   have r0:=rcell 0 (iv 0) (by simp [go_sem]);have r1:=rcell 1 (iv 0) (by simp [go_sem]);have r2:=rcell 2 (iv 0) (by simp [go_sem]);have r3:=rcell 3 (.slice none 0 0) (by simp [go_sem]);have r4:=rcell 4 (.slice none 0 0) (by simp [go_sem]);have r5:=rcell 5 (iv 0) (by simp [go_sem]);have r6:=rcell 6 (iv 0) (by simp [go_sem]);have r7:=rcell 7 (iv 0) (by simp [go_sem]);have r8:=rcell 8 (.slice none 0 0) (by simp [go_sem]);have r9:=rcell 9 (iv 0) (by simp [go_sem]);have r10:=rcell 10 (iv 0) (by simp [go_sem]);have r11:=rcell 11 (iv 0) (by simp [go_sem]);have r12:=rcell 12 (iv 0) (by simp [go_sem]);have f0:=rfz 0;have f1:=rfz 1;have f2:=rfz 2;have f3:=rfz 3;have f4:=rfz 4;have f5:=rfz 5;have f6:=rfz 6;have f7:=rfz 7;have f8:=rfz 8;have f9:=rfz 9;have f10:=rfz 10;have f11:=rfz 11;have f12:=rfz 12;obtain⟨b0,b1,b2,b3,b4,b5,b6,b7,b8,b9,b10,b11,b12⟩:=hcp.bx;have hb0:w.heap.size<wr.heap.size:=uL b0;have hr0:w.heap.size+1<wr.heap.size:=uL r0;clear hcp rcell rfz WB hvc3;go_wp2_with fail;refine bodyPost_ret (v:=x.v (.slice avr x.regs.length kvr) (.slice avc x.cells.length kvc) (.slice ag ng kg)) (by simp [results,Tryz.results139,go_sem,r0,r1,r2,r3,r4,r5,r6,r7,r8,r9,r10,r11,r12]) rfl ⟨_,_,rfl,?_⟩;refine(λ(F:uX (λq=>q=w.heap.size+1) wr _)=>⟨⟨_,_,_,_,_,_,_,_,_,rfl,λh=>(RG h).1,rfl,λh=>(CB (by omega)).1,(RW.only F (λh e=>by have:=(RW.nr h).2;omega) (λh e=>by have:=(RW.nc h).2;omega) (λq hq hl e=>by have:=(RW.pl q hq hl).2.2.2;omega)).less (by omega),CP⟩,F.ext XR (λq hq e=>by omega)⟩) ?_
   repeat (first | refine uX.setCell ?_ (by simp) _ | exact uX.refl _ _)
structure Rwn(B:Nat)(w:World)(x:Hp)(br:Nat)(cB cO:Nat->Nat)(pb:Nat->Nat)(pa:Nat->Option Addr)(pk:Nat->Nat):Prop where
 r:∀i (hi:i<x.regs.length),yC w br (i*3) x.regs[i]
 s:∀q,q<x.cells.length->S7 w (cB q) (cO q) (x.c q)
 p7:∀q,q<x.cells.length->w.cell? ⟨cB q,cO q+7,none⟩=some (.slice (pa q) (x.c q).prs.length (pk q))
 p:∀q,q<x.cells.length->∀k,k<(x.c q).prs.length->zW w (pb q) (k*6) ((x.c q).p k)
 pl:∀q,q<x.cells.length->0<pk q->pa q=some ⟨pb q,0,none⟩/\Nfp (pb q) (pk q) w/\(pb q≠br/\∀j,j<x.cells.length->pb q≠cB j)/\B<=pb q
 nr:0<x.regs.length->Nf1 br w/\B<=br
 nc:∀q,q<x.cells.length->Nf1 (cB q) w/\B<=cB q
 d:∀q,q<x.cells.length->br≠cB q
 dp:∀q q',q<x.cells.length->q'<x.cells.length->q≠q'->0<pk q->0<pk q'->pb q≠pb q'
 dc:∀q q',q<x.cells.length->q'<x.cells.length->q≠q'->cB q≠cB q'\/cO q+8<=cO q'\/cO q'+8<=cO q
 kp:CapP x pk
theorem Rwn.pw(h:Rwn B w x br cB cO pb pa pk){q:Nat}(hq:q<x.cells.length)(hl:0<(x.c q).prs.length):0<pk q:=Nat.lt_of_lt_of_le hl (h.kp q hq)
theorem Rwn.same(h:Rwn B w x br cB cO pb pa pk)(hs:w.heap.size<=w'.heap.size)
  (hr:0<x.regs.length->w'.heap[br]?=w.heap[br]?) (hc:∀q,q<x.cells.length->w'.heap[cB q]?=w.heap[cB q]?) (hp:∀q,q<x.cells.length->0<pk q->w'.heap[pb q]?=w.heap[pb q]?):Rwn B w' x br cB cO pb pa pk where
 r:=λi hi=>(h.r i hi).of λj _=>World.cell?_of_block (a:=⟨br,_,none⟩) (hr (by omega))
 s:=λq hq=>(h.s q hq).of λj _=>World.cell?_of_block (a:=⟨cB q,_,none⟩) (hc q hq)
 p7:=λq hq=>(World.cell?_of_block (a:=⟨cB q,_,none⟩) (hc q hq)).trans (h.p7 q hq)
 p:=λq hq k hk=>(h.p q hq k hk).of λj _=>World.cell?_of_block (a:=⟨pb q,_,none⟩) (hp q hq (h.pw hq (by omega)))
 pl:=λq hq hl=>let ⟨a,b,c⟩:=h.pl q hq hl;⟨a,a0f b (hp q hq hl) hs,c⟩
 nr:=λhl=>⟨cU (h.nr hl).1 (hr hl) hs,(h.nr hl).2⟩
 nc:=λq hq=>⟨cU (h.nc q hq).1 (hc q hq) hs,(h.nc q hq).2⟩
 d:=h.d
 dp:=h.dp
 dc:=h.dc
 kp:=h.kp
theorem Rwn.ext(h:Rwn B w x br cB cO pb pa pk)(e:Ext w w'):Rwn B w' x br cB cO pb pa pk:=
 h.same e.size (λhl=>e.block _ (h.nr hl).1.1) (λq hq=>e.block _ (h.nc q hq).1.1) (λq hq hl=>e.block _ (h.pl q hq hl).2.1.1)
theorem Rwn.only{S:Nat->Prop}(h:Rwn B w x br cB cO pb pa pk)(e:uX S w w')(hr:0<x.regs.length->¬S br)(hc:∀q,q<x.cells.length->¬S (cB q))(hp:∀q,q<x.cells.length->0<pk q->¬S (pb q)):Rwn B w' x br cB cO pb pa pk:=
 h.same e.size (λhl=>e.block _ (h.nr hl).1.1 (hr hl)) (λq hq=>e.block _ (h.nc q hq).1.1 (hc q hq)) (λq hq hl=>e.block _ (h.pl q hq hl).2.1.1 (hp q hq hl))
theorem Rwn.slW(h:Rwn B w x br cB cO pb pa pk){ad:Option Addr}(kr:Nat)(ha:0<x.regs.length->ad=some ⟨br,0,none⟩)(hl:x.regs.length<=1048576):SlW w (.slice ad x.regs.length kr) x.regs:=
 ⟨_,_,rfl,by omega,λi hi=>⟨br,0,ha (by omega),by rw[Nat.zero_add];exact h.r i hi⟩⟩
theorem Rws.rwn{bc:Nat}(h:Rws B w x br bc pb pa pk):Rwn B w x br (λ_=>bc) (λq=>q*8) pb pa pk where
 r:=h.r
 s:=h.s
 p7:=h.p7
 p:=h.p
 pl:=λq hq hl=>let ⟨a,b,c,d⟩:=h.pl q hq hl;⟨a,b,⟨c.1,λ_ _=>c.2⟩,d⟩
 nr:=h.nr
 nc:=λq hq=>h.nc (by omega)
 d:=λq hq=>h.d (by omega)
 dp:=h.dp
 dc:=λq q' _ _ e=>.inr (by omega)
 kp:=h.kp
end Go.Proofs.YtddkhnclmeikfaaGreat
