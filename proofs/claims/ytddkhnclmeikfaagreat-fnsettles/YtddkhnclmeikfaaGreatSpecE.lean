import Derived.Test.YtddkhnclmeikfaaGreatSpecB
set_option maxRecDepth 100000
set_option maxHeartbeats 1000000
namespace Go.Proofs.YtddkhnclmeikfaaGreat
open Go.RowKit
attribute [local go_sem ↓] Go.wp_at_zero Go.wp_at_succ
variable{ar ac ag:Option Addr}{kr kc kg:Nat}{x:Hp}{y:Wd}
def a1u(x:Hp)(y:Wd):Bool:=(y.k == 2) && ((x.c y.a.toNat).color == 0)
theorem a0c:a1u x y=true↔cX x y:=by simp [a1u,cX]
theorem a0w(x:Hp)(b:Nat)(y:Wd)(w:World)(h:HAt w b x ar kr ac kc ag kg)(hy:y.k=2->0<=y.a/\y.a<x.cells.length):
  Calls Tryz.prog 209 #[.pointer (some ⟨b,0,none⟩),y.v] w λe w'=>e=.returned (.bool (a1u x y))/\Ext w w':=by
 cases q:(y.k == 2)
 ·have E:=uU (show a1u x y=false by simp [a1u,q]);have c4:=h.c4;have lc:=h.lc;clear h hy;go_enter Tryz.func209,Tryz.ntmps209;go_wp2_with fail;go_quiet (fail);go_wp2_with fail;go_ret;exact⟨by rw[uH E];rfl,((Ext.refl w).alloc _).drewN _⟩
 ·have q1:y.k=2:=by simpa using q
  obtain⟨h0,h1⟩:=hy q1;obtain⟨i,hi⟩:=Int.eq_ofNat_of_zero_le h0;have E:=uU (show a1u x y=((x.c i).color == 0) by simp [a1u,q1,hi]);obtain⟨b',o,rfl,vp,p0,p1,p2,p3,p4,p5,_⟩:=h.C i (by omega);have c4:=h.c4;have lc:=h.lc;have hb:b<w.heap.size:=uL c4;have hb':b'<w.heap.size:=uL p5;have hi0:(0:Int)<=(i:Int):=by omega
  have hi1:(i:Int)<(x.cells.length:Int):=by omega
  clear h hy h0 h1;go_enter Tryz.func209,Tryz.ntmps209;go_wp2_with fail;go_quiet (fail);go_wp2_with fail;go_ret;exact⟨by rw[uH E];rfl,((Ext.refl w).alloc _).drewN _⟩
def qU(x:Hp)(y:Wd)(m:Bool):Bool:=dW y x.cells.length && (!(y.k == 2) || (if (x.c y.a.toNat).st=2 then m else ((x.c y.a.toNat).st == 1) && !a0m x y.a.toNat))
theorem a1j{m:Bool}{p:Prop}(hm:m=true↔p):qU x y m=true↔cZ x y p:=by
 unfold qU cZ;rw[Bool.and_eq_true,a0h];refine and_congr_right λ_=>?_
 by_cases h2:y.k=2
 ·by_cases hs:(x.c y.a.toNat).st=2
  ·simp [h2,hs,hm]
  ·by_cases h1:(x.c y.a.toNat).st=1
   ·have:a0m x y.a.toNat=false↔¬cL x y.a.toNat:=by rw[<-a1y];simp
    simp [h2,h1,this]
   ·simp [h2,hs,h1]
 ·simp [h2]
theorem a6r(x:Hp)(b:Nat)(y:Wd)(m:Bool)(w:World)(h:HAt w b x ar kr ac kc ag kg):
  Calls Tryz.prog 205 #[.pointer (some ⟨b,0,none⟩),y.v,.bool m] w λe w'=>e=.returned (.bool (qU x y m))/\Ext w w':=by
 have c4:=h.c4;have lc:=h.lc;have hb:b<w.heap.size:=uL c4;have hb2:b<w.heap.size+1:=by omega
 go_enter Tryz.func205,Tryz.ntmps205;go_wp2_with fail
 go_region_held3 (λw'=>w'.cell? ⟨w.heap.size,0,none⟩=some (iv y.k)/\w'.cell? ⟨w.heap.size,1,none⟩=some (iv y.n)/\w'.cell? ⟨w.heap.size,2,none⟩=some (iv y.a)/\w'.cell? ⟨b,4,none⟩=some (.slice ac x.cells.length kc)) (first | (simp [*];done) | go_keep)
    (first | (go_at_call 207;refine(a1n y x.cells.length _).mono ?_;rintro e w1 ⟨rfl,hq1⟩;have hc1:=(dH hq1).1;simp only [World.size_drew,World.size_alloc] at hc1))
 rename_i hHeld;have x1:Ext w w1:=Ext.trans (((Ext.refl w).alloc _).drew) hq1;have z1:w.heap.size<w1.heap.size:=by have:=hq1.size;simp at this;omega
 cases qf:dW y x.cells.length
 ·have E:=uU (show qU x y m=false by simp [qU,qf]);go_wp2_with fail;go_ret;exact⟨by rw[uH E];rfl,x1⟩
 cases qk:(y.k == 2)
 ·have E:=uU (show qU x y m=true by simp [qU,qf,qk]);go_wp2_with fail;go_ret;exact⟨by rw[uH E];rfl,x1⟩
 have q1:y.k=2:=by simpa using qk
 have hf:=a0h.1 qf;unfold uJ at hf;have hr:0<=y.a/\y.a<x.cells.length:=by omega
 have E0:=uU (show qU x y m=(if (x.c y.a.toNat).st=2 then m else ((x.c y.a.toNat).st == 1) && !a0m x y.a.toNat) by simp [qU,qf,q1]);have h1:=h.ext x1;have hd:=uU (λw' (e:Ext w1 w')=>a9c x b y.a w' (h1.ext e) hr.1 hr.2);obtain⟨i,hi⟩:=Int.eq_ofNat_of_zero_le hr.1;rw[hi] at hd E0;rw[Int.toNat_natCast] at E0;obtain⟨b',o,ap,kp,rfl,p0,p1,p2,p3,p4,p5,p6,p7,lp,P⟩:=h1.cell i (by omega);clear P;have d4:=h1.c4;have hi0:(0:Int)<=(i:Int):=by omega
 have hi1:(i:Int)<(x.cells.length:Int):=by omega
 have hb3:b<w1.heap.size:=uL d4;have hb4:b'<w1.heap.size:=uL p0;clear h h1 c4 hf hr hb hb2;go_wp2_with fail;have a2:w1.cell? ⟨w.heap.size,2,none⟩=some (iv i):=by rw[hHeld.2.2.1,hi]
 clear hHeld hc1;go_region_held3 (λw'=>w'.cell? ⟨w.heap.size,2,none⟩=some (iv i)/\w'.cell? ⟨b,4,none⟩=some (.slice (some ⟨b',o,none⟩) x.cells.length kc)/\w'.cell? ⟨b',o+i*8,none⟩=some (iv (x.c i).st)/\w'.cell? ⟨b',o+i*8+1,none⟩=some (iv (x.c i).kind)/\w'.cell? ⟨b',o+i*8+2,none⟩=some (iv (x.c i).weak)/\w'.cell? ⟨b',o+i*8+3,none⟩=some (iv (x.c i).last)/\w'.cell? ⟨b',o+i*8+4,none⟩=some (iv (x.c i).born)/\w'.cell? ⟨b',o+i*8+5,none⟩=some (iv (x.c i).color)/\w'.cell? ⟨b',o+i*8+6,none⟩=some (iv (x.c i).to)/\w'.cell? ⟨b',o+i*8+7,none⟩=some (.slice ap (x.c i).prs.length kp)) (first | (simp [*];done) | go_keep) (fail);have x2:∀o1:Obj,Ext w (w1.alloc o1).drew:=λo1=>(x1.alloc o1).drew
 have y2:∀o1:Obj,Ext w1 (w1.alloc o1).drew:=λo1=>((Ext.refl w1).alloc o1).drew
 cases qs:((x.c i).st == 2)
 ·have qs':¬(x.c i).st=2:=by simpa using qs
  have E:=uU (show qU x y m=(((x.c i).st == 1) && !a0m x i) by rw[uH E0,if_neg qs']);cases qu:((x.c i).st == 1)
  ·go_wp2_with fail;go_ret;exact⟨by rw[uH E,qu];rfl,x2 _⟩
  ·have hd2:=uU (hd _ (y2 (.cells #[.int .i64 (x.c i).st,.int .i64 (x.c i).kind,.int .i64 (x.c i).weak,.int .i64 (x.c i).last,.int .i64 (x.c i).born,.int .i64 (x.c i).color,.int .i64 (x.c i).to,.slice ap (x.c i).prs.length kp] 62)));go_wp2_with (go_at_call 206;refine hd2.mono ?_;rintro e w' ⟨rfl,rfl⟩);go_ret;exact⟨by rw[uH E,qu];simp,x2 _⟩
 ·have qs':(x.c i).st=2:=by simpa using qs
  have E:=uU (show qU x y m=m by rw[uH E0,if_pos qs']);clear qs';go_wp2_with fail;go_ret;exact⟨by rw[uH E];rfl,x2 _⟩
theorem a5q(cs:List Cl)(k:Nat)(h:k<cs.length):dQ (cs.take (k+1))=dQ (cs.take k)+cH cs[k]:=by
 unfold dQ;rw[List.take_succ_eq_append_getElem h];simp only [List.map_append,List.sum_append,List.map_cons,List.map_nil,List.sum_cons,List.sum_nil,Nat.add_zero]
theorem b7v(x:Hp)(b:Nat)(w:World)(h:HAt w b x ar kr ac kc ag kg)(hn:x.cells.length<=8000)(hp:∀i,i<x.cells.length->(x.c i).prs.length<=200):
  Calls Tryz.prog 128 #[.pointer (some ⟨b,0,none⟩)] w λe w'=>e=.returned (.int .i64 (dQ x.cells))/\Ext w w':=by
 have c4:=h.c4;go_enter Tryz.func128,Tryz.ntmps128;go_wp2_with fail;go_loopw [3,11] (λn i wr=>∃(k:Nat) (u:Nat),k<=x.cells.length/\i=.int .i64 k/\n=.int .i64 u/\Hid (u=dQ (x.cells.take k))/\u<=201*k/\Ext w wr) (λ_ i _=>x.cells.length-(intOf i).toNat)
 case atStart=>exact⟨0,0,Nat.zero_le _,rfl,rfl,by show _=_;simp [dQ],by omega,Ext.refl _⟩
 case round=>
  obtain⟨k,u,hk,rfl,rfl,hu,hu2,hbl⟩:=hrel;by_cases hlt:k<x.cells.length
  ·obtain⟨b',o,ap,kp,rfl,p0,p1,p2,p3,p4,p5,p6,p7,lp,P⟩:=(h.ext hbl).cell k hlt;have hpk:=hp k hlt;have hb':b'<wr.heap.size:=uL p0;clear P;have hk0:(0:Int)<=(k:Int):=by omega
   have hk1:(k:Int)<(x.cells.length:Int):=by omega
   have hut:=a5q x.cells k hlt;rw[Hp.c_eq] at hut;cases qs:((x.c k).st == 1)
   ·have qs':¬(x.c k).st=1:=by simpa using qs
    have H:Hid (u=dQ (x.cells.take (k+1))):=by have:=uH hu;show _=_;rw[hut,cH,if_neg qs'];omega
    clear hut;go_wp2_with fail;go_roundw
    case rel=>exact⟨k+1,u,by omega,by go_num,rfl,H,by omega,hbl.alloc _⟩
    case measure=>simp [intOf];omega
   ·have qs':(x.c k).st=1:=by simpa using qs
    have H:Hid (u+(1+(x.c k).prs.length)=dQ (x.cells.take (k+1))):=by have:=uH hu;show _=_;rw[hut,cH,if_pos qs'];omega
    clear hut qs';go_wp2_with fail;go_roundw
    case rel=>exact⟨k+1,u+(1+(x.c k).prs.length),by omega,by go_num,by go_num,H,by omega,hbl.alloc _⟩
    case measure=>simp [intOf];omega
  ·have hk2:k=x.cells.length:=by omega
   have H:=uU (show u=dQ x.cells by have:=uH hu;rw[hk2,List.take_length] at this;exact this);clear hk2;go_wp2_with fail;go_ret;exact⟨by rw[<-uH H];rfl,hbl⟩
theorem b4q(x:Hp)(b:Nat)(w:World)(h:HAt w b x ar kr ac kc ag kg):
  Calls Tryz.prog 133 #[.pointer (some ⟨b,0,none⟩)] w λe w'=>∃r:Bool,e=.returned (.bool r)/\(r=true↔R8 x)/\Ext w w':=by
 have c4:=h.c4;have lc:=h.lc;go_enter Tryz.func133,Tryz.ntmps133;go_wp2_with fail;go_loopw [10] (λi wr=>∃(k:Nat),k<=x.cells.length/\i=.int .i64 k/\(∀j,j<k->¬(x.phase=6/\x.hand<=j/\(x.c j).st=2))/\Ext w wr) (λi _=>x.cells.length-(intOf i).toNat)
 case atStart=>exact⟨0,Nat.zero_le _,rfl,λj hj=>by omega,Ext.refl _⟩
 case round=>
  obtain⟨k,hk,rfl,hall,hbl⟩:=hrel;have HA:=uU hall;clear hall;by_cases hlt:k<x.cells.length
  ·have h1:=h.ext hbl;obtain⟨b',o,ap,kp,rfl,p0,p1,p2,p3,p4,p5,p6,p7,lp,P⟩:=h1.cell k hlt;have d5:=h1.c5;have d6:=h1.c6;have hb':b'<wr.heap.size:=uL p0;have hb:b<wr.heap.size:=uL d5;clear P h1;have hk0:(0:Int)<=(k:Int):=by omega
   have hk1:(k:Int)<(x.cells.length:Int):=by omega
   have step:¬(x.phase=6/\x.hand<=k/\(x.c k).st=2)->Hid (∀j,j<k+1->¬(x.phase=6/\x.hand<=j/\(x.c j).st=2)):=λhn j hj=>by
    by_cases e:j=k
    ·subst e;exact hn
    ·exact HA j (by omega)
   cases q1:(x.phase == 6)
   ·have S:=step (by simp at q1;omega);clear step;go_wp2_with fail;go_roundw
    case rel=>exact⟨k+1,by omega,by go_num,S,hbl.alloc _⟩
    case measure=>simp [intOf];omega
   ·cases q2:decide (x.hand<=(k:Int))
    ·have S:=step (by simp at q2;omega);clear step;go_wp2_with fail;go_roundw
     case rel=>exact⟨k+1,by omega,by go_num,S,hbl.alloc _⟩
     case measure=>simp [intOf];omega
    ·cases q3:((x.c k).st == 2)
     ·have S:=step (by simp at q3;omega);clear step;go_wp2_with fail;go_roundw
      case rel=>exact⟨k+1,by omega,by go_num,S,hbl.alloc _⟩
      case measure=>simp [intOf];omega
     ·have N:=uU (show ¬R8 x from λr=>r k hlt ⟨by simpa using q1,by simpa using q2,by simpa using q3⟩);clear step;go_wp2_with fail;go_ret;exact⟨false,rfl,⟨λf=>by simp at f,λr=>(N r).elim⟩,hbl.alloc _⟩
  ·have Y:=uU (show R8 x from λi hi=>uH HA i (by omega));go_wp2_with fail;go_ret;exact⟨true,rfl,⟨λ_=>uH Y,λ_=>rfl⟩,hbl⟩
theorem c3g(h:x.phase=0\/x.phase=4):(((x.hand == 0) && (x.sub == 0))=true↔R6 x):=by
 unfold R6;rcases h with h | h <;> simp [h]
theorem R6_1(h:x.phase=1\/x.phase=3\/x.phase=6):((x.sub == 0)=true↔R6 x):=by
 unfold R6;rcases h with h | h | h <;> simp [h]
theorem b8b(x:Hp)(b:Nat)(w:World)(h:HAt w b x ar kr ac kc ag kg)(r1:R1 x)(r5:R5 x):
  Calls Tryz.prog 131 #[.pointer (some ⟨b,0,none⟩)] w λe w'=>∃r:Bool,e=.returned (.bool r)/\(r=true↔R6 x)/\Ext w w':=by
 have c4:=h.c4;have c5:=h.c5;have c6:=h.c6;have c7:=h.c7;have c8:=h.c8;have lc:=h.lc;have lg:=h.lg;obtain⟨ph0,ph1⟩:=r1.phase;obtain⟨hh0,hh1⟩:=r1.hand;have hphase:x.phase=0\/x.phase=1\/x.phase=2\/x.phase=3\/x.phase=4\/x.phase=5\/x.phase=6:=by omega
 clear ph0 ph1;rcases hphase with hp | hp | hp | hp | hp | hp | hp
 ·have Y:=uU (c3g (x:=x) (Or.inl hp));clear r1 r5 h;cases q:(x.hand == 0)
  all_goals
   go_enter Tryz.func131,Tryz.ntmps131;go_wp2_with fail;go_ret;exact⟨_,rfl,by have:=uH Y;rw[q] at this;simpa using this,Ext.refl _⟩
 ·have Y:=uU (R6_1 (x:=x) (Or.inl hp));clear r1 r5 h;go_enter Tryz.func131,Tryz.ntmps131;go_wp2_with fail;go_ret;exact⟨_,rfl,Y,Ext.refl _⟩
 ·cases q:(x.hand == 0)
  ·have Y:=uU (show ¬R6 x from λr=>by have:=(r.2.1 hp).1;simp at q;omega);have q':(x.hand != 0)=true:=by simpa using q
   clear r1 r5 h;go_enter Tryz.func131,Tryz.ntmps131;go_wp2_with fail;go_ret;exact⟨false,rfl,⟨λf=>by simp at f,λr=>(Y r).elim⟩,Ext.refl _⟩
  ·have q':(x.hand != 0)=false:=by simpa using q
   by_cases hg:x.gray.length=0
   ·have Y:=uU (show(x.sub == 0)=true↔R6 x by
     have q2:x.hand=0:=by simpa using q
     unfold R6;simp [hp,hg,q2])
    clear r1 r5 h;go_enter Tryz.func131,Tryz.ntmps131;go_wp2_with fail;go_ret;exact⟨_,rfl,Y,Ext.refl _⟩
   ·have hg0:0<x.gray.length:=by omega
    have hgr:=r5.2.2 x.gray[0] (List.getElem_mem hg0);obtain⟨i,hi⟩:=Int.eq_ofNat_of_zero_le hgr.1;have eg:x.g0=i:=by simp [Hp.g0,hg0,hi]
    have Y:=uU (show decide (x.sub<=((x.c i).prs.length:Int))=true↔R6 x by
     have q2:x.hand=0:=by simpa using q
     have hg2:x.gray≠[]:=λe=>by simp [e] at hg
     unfold R6;rw[eg];simp [hp,hg2,q2])
    obtain⟨bg,og,rfl,pg⟩:=h.G 0 hg0;unfold yD at pg;rw[hi] at pg;simp only [Nat.zero_mul,Nat.add_zero] at pg;obtain⟨b',o,ap,kp,rfl,p0,p1,p2,p3,p4,p5,p6,p7,lp,P⟩:=h.cell i (by omega);have hg3:((x.gray.length:Int) == 0)=false:=beq_eq_false_iff_ne.2 (by omega);have hg4:(0:Int)<(x.gray.length:Int):=by omega
    have hi0:(0:Int)<=(i:Int):=by omega
    have hi1:(i:Int)<(x.cells.length:Int):=by omega
    clear r1 r5 h P hgr hi eg hg;go_enter Tryz.func131,Tryz.ntmps131;go_wp2_with fail;go_quiet (fail);go_wp2_with fail;go_ret;exact⟨_,rfl,Y,(Ext.refl _).drewN _⟩
 ·have Y:=uU (R6_1 (x:=x) (Or.inr (Or.inl hp)));clear r1 r5 h;go_enter Tryz.func131,Tryz.ntmps131;go_wp2_with fail;go_ret;exact⟨_,rfl,Y,Ext.refl _⟩
 ·have Y:=uU (c3g (x:=x) (Or.inr hp));clear r1 r5 h;cases q:(x.hand == 0)
  all_goals
   go_enter Tryz.func131,Tryz.ntmps131;go_wp2_with fail;go_ret;exact⟨_,rfl,by have:=uH Y;rw[q] at this;simpa using this,Ext.refl _⟩
 ·obtain⟨i,hi⟩:=Int.eq_ofNat_of_zero_le hh0;cases q:(x.hand == (x.cells.length:Int))
  ·have hi2:i<x.cells.length:=by simp at q;omega
   have q2:((i:Int) == (x.cells.length:Int))=false:=by simp;omega
   have hu:=a5p x b i w h (by omega) (by omega);have HU:=uU (λn=>a5p x b i (w.drewN n) (h.ext ((Ext.refl w).drewN n)) (by omega) (by omega));rw[Int.toNat_natCast] at HU;obtain⟨b',o,ap,kp,rfl,p0,p1,p2,p3,p4,p5,p6,p7,lp,P⟩:=h.cell i hi2;rw[hi] at c6;have hi0:(0:Int)<=(i:Int):=by omega
   have hi1:(i:Int)<(x.cells.length:Int):=by omega
   cases qu:a8e x i
   ·have Y:=uU (show(x.sub == 0)=true↔R6 x by
     have q3:¬(x.c i).st=1:=by simpa [a8e] using qu
     unfold R6;simp [hp,hi,q3])
    clear r1 r5 h P hu q hh0 hh1 hi;go_enter Tryz.func131,Tryz.ntmps131;go_wp2_with fail;go_quiet ((go_at_call 203;exact Calls.quiet_of_same (HU _)));go_wp2_with fail;go_ret;exact⟨_,rfl,Y,(Ext.refl _).drewN _⟩
   ·have Y:=uU (show decide (x.sub<=((x.c i).prs.length:Int))=true↔R6 x by
     have q3:(x.c i).st=1:=by simpa [a8e] using qu
     have q4:¬(i:Int)=(x.cells.length:Int):=by omega
     unfold R6;simp [hp,hi,q3,q4])
    clear r1 r5 h P hu q hh0 hh1 hi;go_enter Tryz.func131,Tryz.ntmps131;go_wp2_with fail;go_quiet ((go_at_call 203;exact Calls.quiet_of_same (HU _)));go_wp2_with fail;go_quiet (fail);go_wp2_with fail;go_ret;exact⟨_,rfl,Y,((Ext.refl _).drewN _).drewN _⟩
  ·have Y:=uU (show(x.sub == 0)=true↔R6 x by
     have q3:x.hand=x.cells.length:=by simpa using q
     unfold R6;simp [hp,q3])
   have q4:x.hand=x.cells.length:=by simpa using q
   rw[q4] at c6;have q5:((x.cells.length:Int) == (x.cells.length:Int))=true:=by simp
   clear r1 r5 h q q4 hh0 hh1 hi;go_enter Tryz.func131,Tryz.ntmps131;go_wp2_with fail;go_quiet (fail);go_wp2_with fail;go_ret;exact⟨_,rfl,Y,(Ext.refl _).drewN _⟩
 ·have Y:=uU (R6_1 (x:=x) (Or.inr (Or.inr hp)));clear r1 r5 h;go_enter Tryz.func131,Tryz.ntmps131;go_wp2_with fail;go_ret;exact⟨_,rfl,Y,Ext.refl _⟩
end Go.Proofs.YtddkhnclmeikfaaGreat
