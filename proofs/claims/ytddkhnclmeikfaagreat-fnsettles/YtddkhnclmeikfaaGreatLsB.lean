import Derived.Test.YtddkhnclmeikfaaGreatImpK
import Derived.Deep.LoopGhost
set_option maxRecDepth 100000
set_option maxHeartbeats 4000000
namespace Go.Proofs.YtddkhnclmeikfaaGreat
open Go.RowKit
attribute [local go_sem ↓] Go.wp_at_zero Go.wp_at_succ
variable{ar ac ag an:Option Addr}{kr kc kg kn:Nat}
theorem b0r(x:Hp)(b:Nat)(w:World)(h:VAt w b x ar kr ac kc ag kg an kn)(r1:R1 x)(r2:R2 x)(r5:R5 x):
  Calls Tryz.prog 112 #[.pointer (some ⟨b,0,none⟩)] w λe w'=>∃r:Bool,Hid (e=.returned (.bool r))/\(r=true↔R6 x)/\Ext w w':=by
 have c5:=h.H.c5;have c6:=h.H.c6;have c7:=h.H.c7;obtain⟨ph0,ph1⟩:=r1.phase;obtain⟨hh0,hh1⟩:=r1.hand;have hs0:=r1.sub.1;have hphase:x.phase=0\/x.phase=1\/x.phase=2\/x.phase=3\/x.phase=4\/x.phase=5\/x.phase=6:=by omega
 clear ph0 ph1;rcases hphase with hp | hp | hp | hp | hp | hp | hp
 ·have Y:=uU (c3g (x:=x) (Or.inl hp));clear r1 r2 r5 h;cases q:(x.hand == 0)
  all_goals
   go_enter Tryz.func112,Tryz.ntmps112;go_wp2_with fail;go_ret;exact⟨_,rfl,by have:=uH Y;rw[q] at this;simpa using this,Ext.refl _⟩
 ·have Y:=uU (R6_1 (x:=x) (Or.inl hp));clear r1 r2 r5 h;go_enter Tryz.func112,Tryz.ntmps112;go_wp2_with fail;go_ret;exact⟨_,rfl,Y,Ext.refl _⟩
 ·cases q:(x.hand == 0)
  ·have Y:=uU (show ¬R6 x from λr=>by have:=(r.2.1 hp).1;simp at q;omega);clear r1 r2 r5 h;go_enter Tryz.func112,Tryz.ntmps112;go_wp2_with fail;go_quiet (fail);go_wp2_with fail;go_ret;exact⟨false,rfl,⟨λf=>by simp at f,λr=>(Y r).elim⟩,(Ext.refl _).drewN _⟩
  ·by_cases hg:x.gray.length=0
   ·have Y:=uU (show decide (x.sub<=0)=true↔R6 x by
     have q2:x.hand=0:=by simpa using q
     unfold R6;simp [hp,hg,q2];omega)
    have c8:=h.H.c8;rw[hg] at c8;have HG:=uU (λn=>a6v b (w.drewN n) (((Ext.refl w).drewN n).keep c8));clear r1 r2 r5 h hg c8;go_enter Tryz.func112,Tryz.ntmps112;go_wp2_with fail;go_quiet ((go_at_call 182;exact Calls.quiet_of_same (HG _)));go_wp2_with fail;go_ret;exact⟨_,rfl,Y,(Ext.refl _).drewN _⟩
   ·have hg0:0<x.gray.length:=by omega
    have hgr:=r5.2.2 x.gray[0] (List.getElem_mem hg0);obtain⟨i,hi⟩:=Int.eq_ofNat_of_zero_le hgr.1;have eg:x.g0=i:=by simp [Hp.g0,hg0,hi]
    have Y:=uU (show decide (x.sub<=((x.c i).prs.length:Int))=true↔R6 x by
     have q2:x.hand=0:=by simpa using q
     have hg2:x.gray≠[]:=λe=>by simp [e] at hg
     unfold R6;rw[eg];simp [hp,hg2,q2])
    obtain⟨b',o,ap,kp,ea,C⟩:=h.H.cell i (by omega);have HG:=uU (λn=>a6w x b i (w.drewN n) (h.ext ((Ext.refl w).drewN n)) hg0 hi (by omega) b' o ap kp ea (C.ext ((Ext.refl w).drewN n)));clear r1 r2 r5 h C hgr hi eg hg hg0 ea;go_enter Tryz.func112,Tryz.ntmps112;go_wp2_with fail;go_quiet ((go_at_call 182;exact Calls.quiet_of (HG _)));go_wp2_with fail;go_ret;exact⟨_,rfl,Y,(Ext.refl _).drewN _⟩
 ·have Y:=uU (R6_1 (x:=x) (Or.inr (Or.inl hp)));clear r1 r2 r5 h;go_enter Tryz.func112,Tryz.ntmps112;go_wp2_with fail;go_ret;exact⟨_,rfl,Y,Ext.refl _⟩
 ·have Y:=uU (c3g (x:=x) (Or.inr hp));clear r1 r2 r5 h;cases q:(x.hand == 0)
  all_goals
   go_enter Tryz.func112,Tryz.ntmps112;go_wp2_with fail;go_ret;exact⟨_,rfl,by have:=uH Y;rw[q] at this;simpa using this,Ext.refl _⟩
 ·obtain⟨i,hi⟩:=Int.eq_ofNat_of_zero_le hh0;by_cases hil:i<x.cells.length
  ·have Y:=uU (show decide (x.sub<=((x.c i).prs.length:Int))=true↔R6 x by
    have q4:¬(i:Int)=(x.cells.length:Int):=by omega
    by_cases q3:(x.c i).st=1
    ·unfold R6;simp [hp,hi,q3,q4]
    ·have q5:(x.c i).prs.length=0:=by
      rcases r2.1 i hil with c | c | c
      ·exact c.2.1.2.2.2.2.2
      ·exact c.2.1.2.2.2.2.2
      ·exact absurd c.1 q3
     unfold R6;simp [hp,hi,q3,q5];omega)
   obtain⟨b',o,ap,kp,ea,C⟩:=h.H.cell i hil;have HG:=uU (λn=>b2w x b i (w.drewN n) (h.ext ((Ext.refl w).drewN n)) hi hil b' o ap kp ea (C.ext ((Ext.refl w).drewN n)));clear r1 r2 r5 h C ea hi hh0 hh1;go_enter Tryz.func112,Tryz.ntmps112;go_wp2_with fail;go_quiet ((go_at_call 183;exact Calls.quiet_of (HG _)));go_wp2_with fail;go_ret;exact⟨_,rfl,Y,(Ext.refl _).drewN _⟩
  ·have he:x.hand=x.cells.length:=by omega
   have Y:=uU (show decide (x.sub<=0)=true↔R6 x by
    unfold R6;simp [hp,he];omega)
   have d6:=c6;rw[he] at d6;have HG:=uU (λn=>b2v x b (w.drewN n) (((Ext.refl w).drewN n).keep d6) (((Ext.refl w).drewN n).keep h.n13));clear r1 r2 r5 h hi hh0 hh1 he d6 hil;go_enter Tryz.func112,Tryz.ntmps112;go_wp2_with fail;go_quiet ((go_at_call 183;exact Calls.quiet_of (HG _)));go_wp2_with fail;go_ret;exact⟨_,rfl,Y,(Ext.refl _).drewN _⟩
 ·have Y:=uU (R6_1 (x:=x) (Or.inr (Or.inr hp)));clear r1 r2 r5 h;go_enter Tryz.func112,Tryz.ntmps112;go_wp2_with fail;go_ret;exact⟨_,rfl,Y,Ext.refl _⟩
def hwB(x:Hp)(y:Wd):Bool:=(y.k == 2) && qJ (x.c y.a.toNat)
theorem b2x(x:Hp)(y:Wd)(b i:Nat)(w:World)(h:VAt w b x ar kr ac kc ag kg an kn)(k2:(y.k == 2)=true)(hi:i<x.cells.length):
  Calls Tryz.prog 231 #[.pointer (some ⟨b,0,none⟩),.agg #[iv y.k,iv y.n,iv i]] w λe w'=>e=.returned (.bool (qJ (x.c i)))/\Ext w w':=by
 obtain⟨bn,on,bc,oc,rfl,rfl,m0,m1⟩:=h.N i hi;obtain⟨bc',oc',ap,kp,e2,C⟩:=h.H.cell i hi;cases e2;have n13:=h.n13;have x1:=(Ext.refl w).alloc (.cells #[iv y.k,iv y.n,iv i] 152);go_enter Tryz.func231,Tryz.ntmps231;go_wp2_with fail;refine(a7s y b x.cells.length bn on kn i _ k2 (x1.keep n13) hi).mono ?_;rintro e w1 ⟨rfl,hq⟩;have x2:=x1.trans hq;go_wp2_with fail;refine(a4x (x.c i) bn (on+i*2) bc (oc+i*8) ap kp _ (x2.keep m1) (C.ext x2)).mono ?_;rintro e w2 ⟨rfl,rfl⟩;go_wp2_with fail;go_ret;exact⟨rfl,x2⟩
theorem a6x(x:Hp)(y:Wd)(b:Nat)(w:World)(h:VAt w b x ar kr ac kc ag kg an kn)(hy:uJ y x.cells.length):
  Calls Tryz.prog 231 #[.pointer (some ⟨b,0,none⟩),y.v] w λe w'=>e=.returned (.bool (hwB x y))/\Ext w w':=by
 cases k2:(y.k == 2)
 ·have:hwB x y=false:=by simp [hwB,k2]
  rw[this];exact b4t y b w k2
 ·have hr:0<=y.a/\y.a<x.cells.length:=by simp at k2;unfold uJ at hy;omega
  have e:hwB x y=qJ (x.c y.a.toNat):=by simp [hwB,k2]
  rw[e];have:=b2x x y b y.a.toNat w h k2 (by omega)
  rwa [Int.toNat_of_nonneg hr.1] at this
theorem a3q(x:Hp)(b n cap:Nat)(ap:Option Addr)(f:Nat->Pr)(w:World)(h:VAt w b x ar kr ac kc ag kg an kn)
  (lp:n<=35184372088832) (P:∀k,k<n->∃b' o',ap=some ⟨b',o',none⟩/\zW w b' (o'+k*6) (f k)) (hF:∀k,k<n->uJ (f k).key x.cells.length/\uJ (f k).val x.cells.length) :
  Calls Tryz.prog 185 #[.pointer (some ⟨b,0,none⟩),.slice ap n cap] w λe w'=>∃r:Bool,Hid (e=.returned (.bool r))/\(r=true↔∃k,k<n/\(hwB x (f k).key=true\/hwB x (f k).val=true))/\Ext w w':=by
 have HP:=uU P;have HF:=uU hF;clear P hF;go_enter Tryz.func185,Tryz.ntmps185;go_wp2_with fail;go_loopw [9] (λi wr=>∃l:Nat,l<=n/\i=.int .i64 l/\(∀j,j<l->¬(hwB x (f j).key=true\/hwB x (f j).val=true))/\Ext w wr) (λi _=>n-(intOf i).toNat)
 case atStart=>exact⟨0,Nat.zero_le _,rfl,λj h=>by omega,Ext.refl _⟩
 case round=>
  obtain⟨l,hl,rfl,hall,hbl⟩:=hrel;have HB:=uU hall;clear hall;by_cases hl2:l<n
  ·obtain⟨b2,o2,rfl,q0,q1,q2,q3,q4,q5⟩:=uH HP l hl2;have HFl:=uU (HF l hl2);have e0:=hbl.keep q0;have e1:=hbl.keep q1;have e2:=hbl.keep q2;have e3:=hbl.keep q3;have e4:=hbl.keep q4;have e5:=hbl.keep q5;have hb2:b2<wr.heap.size:=uL e0;clear q0 q1 q2 q3 q4 q5;have hl0:(0:Int)<=(l:Int):=by omega
   have hl1:(l:Int)<(n:Int):=by omega
   have hx3:=hbl.alloc (.cells #[.int .i64 (f l).key.k,.int .i64 (f l).key.n,.int .i64 (f l).key.a,.int .i64 (f l).val.k,.int .i64 (f l).val.n,.int .i64 (f l).val.a] 154);go_wp2_with fail;refine(a6x x (f l).key b _ (h.ext hx3) HFl.1).mono ?_;rintro e w2 ⟨rfl,hq2⟩;have x2:=hx3.trans hq2;have u:=λ(o:Nat) (v:Value) (hc:(wr.alloc (.cells #[.int .i64 (f l).key.k,.int .i64 (f l).key.n,.int .i64 (f l).key.a,.int .i64 (f l).val.k,.int .i64 (f l).val.n,.int .i64 (f l).val.a] 154)).cell? ⟨wr.heap.size,o,none⟩=some v)=>hq2.keep hc
   have u3:=u 3 _ (by simp [go_sem];rfl);have u4:=u 4 _ (by simp [go_sem];rfl);have u5:=u 5 _ (by simp [go_sem];rfl);clear u e0 e1 e2 e3 e4 e5;cases tk:hwB x (f l).key
   ·go_wp2_with fail;refine(a6x x (f l).val b _ (h.ext x2) HFl.2).mono ?_;rintro e w3 ⟨rfl,hq3⟩;have x3:=x2.trans hq3;cases tv:hwB x (f l).val
    ·have S:=uU (show ∀j,j<l+1->¬(hwB x (f j).key=true\/hwB x (f j).val=true) from λj hj=>by
      by_cases e:j=l
      ·subst e;simp [tk,tv]
      ·exact HB j (by omega))
     go_wp2_with fail;go_roundw
     case rel=>exact⟨l+1,by omega,by go_num,S,x3⟩
     case measure=>simp [intOf];omega
    ·have Y:=uU (show ∃k,k<n/\(hwB x (f k).key=true\/hwB x (f k).val=true) from⟨l,hl2,.inr tv⟩);go_wp2_with fail;go_ret;exact⟨true,rfl,⟨λ_=>uH Y,λ_=>rfl⟩,x3⟩
   ·have Y:=uU (show ∃k,k<n/\(hwB x (f k).key=true\/hwB x (f k).val=true) from⟨l,hl2,.inl tk⟩);go_wp2_with fail;go_ret;exact⟨true,rfl,⟨λ_=>uH Y,λ_=>rfl⟩,x2⟩
  ·have N:=uU (show ¬∃k,k<n/\(hwB x (f k).key=true\/hwB x (f k).val=true) from λ⟨k,hk,hh⟩=>uH HB k (by omega) hh);go_wp2_with fail;go_ret;exact⟨false,rfl,⟨λf=>by simp at f,λr=>(N r).elim⟩,hbl⟩
abbrev Rw:=Option Tmp×List Tmp×List Nat
def b2y(md:Region.Mode)(ops:Array Oper)(o:Oper):Rw:=(o.dst,o.looksAt ops,(o.after.toList.filter (λe=>Region.binds md e)).map (·.on))
def c7m(x y:Rw):Bool:=
 (match x.1 with
  | some d=>!y.2.1.contains d && y.1 != some d
  | none=>true) &&
 (match y.1 with
  | some d=>!x.2.1.contains d
  | none=>true)
theorem c4v(md:Region.Mode)(ops:Array Oper)(x y:Oper):c7m (b2y md ops x) (b2y md ops y)=x.apart ops y:=rfl
def lexR:Nat->List Rw->Bool
 | _,[]=>true
 | k,r::rs=>r.2.2.all (λi=>Nat.blt i k) && rs.all (λs=>s.2.2.contains k || c7m r s) && lexR (k+1) rs
theorem a9k(md:Region.Mode)(ops:Array Oper):∀(l:List Oper) (k:Nat) (listed:Array Bool),k+l.length=ops.size->(∀j,l[j]?=ops[k+j]?)->listed.size=ops.size->(∀j,j<ops.size->listed[j]?=some (decide (j<k)))->
  lexR k (l.map (b2y md ops))=true->Region.lexFrom md ops l.length k listed=true
 | [],k,listed,hk,_,hs,hl,_=>by
  simp at hk;simp only [List.length_nil,Region.lexFrom,List.isEmpty_iff,Region.ready,List.filter_eq_nil_iff,List.mem_range];intro i hi;have:=hl i hi;simp [this,hk,hi]
 | o::l,k,listed,hk,ho,hs,hl,h=>by
  simp at hk;have h0:ops[k]?=some o:=by simpa using (ho 0).symm
  have hkn:k<ops.size:=by omega
  simp only [List.map_cons,lexR,Bool.and_eq_true,List.all_eq_true] at h;obtain⟨⟨ha,hb⟩,hc⟩:=h;simp only [List.length_cons,Region.lexFrom,Bool.and_eq_true];refine⟨⟨?_,?_⟩,?_⟩
  ·simp only [List.contains_eq_mem,decide_eq_true_eq,Region.ready,List.mem_filter,List.mem_range];refine⟨hkn,?_⟩;have h1:=hl k hkn;simp only [Array.getD_eq_getD_getElem?,h1,h0];simp only [Nat.lt_irrefl,decide_false,Option.getD_some,Bool.not_false,Option.map_some,Bool.true_and,Array.all_eq_true_iff_forall_mem];intro e he;by_cases hbd:Region.binds md e=true
   ·have:=ha e.on (by simp only [b2y,List.mem_map,List.mem_filter];exact⟨e,⟨by simpa using he,hbd⟩,rfl⟩);have hlt:e.on<k:=Nat.le_of_ble_eq_true this;have h2:=hl e.on (by omega);simp [h2,hlt]
   ·simp [hbd]
  ·simp only [Region.free,h0,List.all_eq_true,List.mem_range];intro j hj;by_cases e1:j=k
   ·simp [e1]
   ·by_cases e2:j<k
    ·have:=hl j hj;simp [this,e2]
    ·obtain⟨oj,hoj⟩:∃oj,ops[j]?=some oj:=⟨_,Array.getElem?_eq_getElem hj⟩
     have hm:oj∈l:=by
      have:=ho (j-k);rw[show k+(j-k)=j by omega,hoj,show j-k=(j-k-1)+1 by omega,List.getElem?_cons_succ] at this;exact List.mem_of_getElem? this
     have:=hb (b2y md ops oj) (List.mem_map_of_mem hm);rw[c4v,Bool.or_eq_true] at this;simp only [hoj,Bool.or_eq_true];rcases this with h3 | h3
     ·refine .inr (.inl ?_);simp only [b2y,List.contains_eq_mem,decide_eq_true_eq,List.mem_map,List.mem_filter] at h3;obtain⟨e,⟨he,hbd⟩,hon⟩:=h3;rw[Array.any_eq_true'];exact⟨e,by simpa using he,by simp [hbd,hon]⟩
     ·exact .inr (.inr h3)
  ·refine a9k md ops l (k+1) _ (by omega) (λj=>?_) (by simpa using hs) (λj hj=>?_) hc
   ·have:=ho (j+1);rw[List.getElem?_cons_succ] at this;rw[this,show k+(j+1)=k+1+j by omega]
   ·rw[Array.getElem?_setIfInBounds];by_cases e:k=j
    ·subst e;rw[if_pos rfl,if_pos (by omega)];simp
    ·rw[if_neg e,hl j hj]
     congr 1
     exact decide_eq_decide.2 (by omega)
theorem b5m(md:Region.Mode)(ops:Array Oper)(hs:Region.noSelect ops=true)(h:lexR 0 (ops.toList.map (b2y md ops))=true):Region.lexB md ops=true:=by
 simp only [Region.lexB,hs,Bool.true_and];have:=a9k md ops ops.toList 0 (Array.replicate ops.size false) (by simp) (by simp) (by simp) (λj hj=>by simp [hj]) h
 simpa using this
def third:Option Code->Array Oper
 | some (.seq _ (.seq _ (.seq (.region _ ops _) _)))=>ops
 | _=>#[]
theorem a1o:Region.lexB .any (third Tryz.f106.body)=true:=b5m _ _ (by kernel_rfl) (by kernel_rfl)
def tN(c:Cl):Bool:=(c.kind == 0) && (c.weak == 0) && (c.last == 0) && (c.born == 0) && (c.color == 0) && ((c.prs.length:Int) == 0)
theorem a7t{c:Cl}:tN c=true↔a5k c:=by
 unfold tN a5k;simp only [Bool.and_eq_true,beq_iff_eq];constructor
 ·intro h;omega
 ·intro h;omega
theorem b8c(c:Cl)(bn q bc r:Nat)(ap:Option Addr)(kp:Nat)(w:World)(m1:w.cell? ⟨bn,q+1,none⟩=some (.pointer (some ⟨bc,r,none⟩)))(h:CAt w bc r c ap kp):
  Calls Tryz.prog 172 #[.pointer (some ⟨bn,q,none⟩)] w λe w'=>e=.returned (.bool (tN c))/\w'=w:=by
 obtain⟨p0,p1,p2,p3,p4,p5,p6,p7,lp,P⟩:=h;clear P p0 p6;cases q0:(c.kind == 0)
 ·have E:=uU (show tN c=false by simp [tN,q0]);go_enter Tryz.func172,Tryz.ntmps172
  go_wp2
  go_ret;exact⟨by rw[uH E];rfl,rfl⟩
 cases q1:(c.weak == 0)
 ·have E:=uU (show tN c=false by simp [tN,q0,q1]);go_enter Tryz.func172,Tryz.ntmps172
  go_wp2
  go_ret;exact⟨by rw[uH E];rfl,rfl⟩
 cases q2:(c.last == 0)
 ·have E:=uU (show tN c=false by simp [tN,q0,q1,q2]);go_enter Tryz.func172,Tryz.ntmps172
  go_wp2
  go_ret;exact⟨by rw[uH E];rfl,rfl⟩
 cases q3:(c.born == 0)
 ·have E:=uU (show tN c=false by simp [tN,q0,q1,q2,q3]);go_enter Tryz.func172,Tryz.ntmps172
  go_wp2
  go_ret;exact⟨by rw[uH E];rfl,rfl⟩
 cases q4:(c.color == 0)
 ·have E:=uU (show tN c=false by simp [tN,q0,q1,q2,q3,q4]);go_enter Tryz.func172,Tryz.ntmps172
  go_wp2
  go_ret;exact⟨by rw[uH E];rfl,rfl⟩
 cases q5:((c.prs.length:Int) == 0)
 ·have E:=uU (show tN c=false by simp [tN,q0,q1,q2,q3,q4,q5]);go_enter Tryz.func172,Tryz.ntmps172
  go_wp2
  go_ret;exact⟨by rw[uH E];rfl,rfl⟩
 have E:=uU (show tN c=true by simp only [tN,q0,q1,q2,q3,q4,q5,Bool.and_self]);go_enter Tryz.func172,Tryz.ntmps172
 go_wp2
 go_ret;exact⟨by rw[uH E];rfl,rfl⟩
theorem bare_is(c:Cl)(bn q bc r:Nat)(ap:Option Addr)(kp:Nat)(s:Bool)(hs:tN c=s)(w:World)(m1:w.cell? ⟨bn,q+1,none⟩=some (.pointer (some ⟨bc,r,none⟩)))(h:CAt w bc r c ap kp):
  Calls Tryz.prog 172 #[.pointer (some ⟨bn,q,none⟩)] w λe w'=>e=.returned (.bool s)/\w'=w:=by
 rw[<-hs];exact b8c c bn q bc r ap kp w m1 h
theorem a3f:Region.lexB .any (third Tryz.f173.body)=true:=b5m _ _ (by kernel_rfl) (by kernel_rfl)
theorem used_0(x:Hp)(c:Cl)(b bn q bc r:Nat)(ap:Option Addr)(kp:Nat)(w:World)(_:w.cell? ⟨b,2,none⟩=some (iv x.born))(m1:w.cell? ⟨bn,q+1,none⟩=some (.pointer (some ⟨bc,r,none⟩)))(h:CAt w bc r c ap kp)(q0:uQ c.kind 0 255=false):
  Calls Tryz.prog 173 #[.pointer (some ⟨b,0,none⟩),.pointer (some ⟨bn,q,none⟩)] w λe w'=>e=.returned (.bool false)/\Ext w w':=by
 obtain⟨p0,p1,p2,p3,p4,p5,p6,p7,lp,P⟩:=h;clear P p0;go_enter Tryz.func173,Tryz.ntmps173;go_wp2_with fail
 try simp only [List.append]
 refine wp_region_quiet_lit (by kernel_rfl) a3f ?_
 repeat (go_big_quiet_step ((go_at_call 78;first | (refine Calls.quiet_of_same (uD _ _ _ true ?_ _);assumption) | (refine Calls.quiet_of_same (uD _ _ _ false ?_ _);assumption))))
 refine wpQuiet_nil ?_;intro _ hw';obtain⟨nq,hw''⟩:=hw';subst hw'';go_wp2_with fail;go_ret;exact⟨rfl,Ext.drewN (Ext.refl w) _⟩
theorem used_1(x:Hp)(c:Cl)(b bn q bc r:Nat)(ap:Option Addr)(kp:Nat)(w:World)(_:w.cell? ⟨b,2,none⟩=some (iv x.born))(m1:w.cell? ⟨bn,q+1,none⟩=some (.pointer (some ⟨bc,r,none⟩)))(h:CAt w bc r c ap kp)(q0:uQ c.kind 0 255=true)(q1:uQ c.weak 0 3=false):
  Calls Tryz.prog 173 #[.pointer (some ⟨b,0,none⟩),.pointer (some ⟨bn,q,none⟩)] w λe w'=>e=.returned (.bool false)/\Ext w w':=by
 obtain⟨p0,p1,p2,p3,p4,p5,p6,p7,lp,P⟩:=h;clear P p0;go_enter Tryz.func173,Tryz.ntmps173;go_wp2_with fail
 try simp only [List.append]
 refine wp_region_quiet_lit (by kernel_rfl) a3f ?_
 repeat (go_big_quiet_step ((go_at_call 78;first | (refine Calls.quiet_of_same (uD _ _ _ true ?_ _);assumption) | (refine Calls.quiet_of_same (uD _ _ _ false ?_ _);assumption))))
 refine wpQuiet_nil ?_;intro _ hw';obtain⟨nq,hw''⟩:=hw';subst hw'';go_wp2_with fail;go_ret;exact⟨rfl,Ext.drewN (Ext.refl w) _⟩
theorem used_2(x:Hp)(c:Cl)(b bn q bc r:Nat)(ap:Option Addr)(kp:Nat)(w:World)(_:w.cell? ⟨b,2,none⟩=some (iv x.born))(m1:w.cell? ⟨bn,q+1,none⟩=some (.pointer (some ⟨bc,r,none⟩)))(h:CAt w bc r c ap kp)(q0:uQ c.kind 0 255=true)(q1:uQ c.weak 0 3=true)(q2:uQ c.last 0 3=false):
  Calls Tryz.prog 173 #[.pointer (some ⟨b,0,none⟩),.pointer (some ⟨bn,q,none⟩)] w λe w'=>e=.returned (.bool false)/\Ext w w':=by
 obtain⟨p0,p1,p2,p3,p4,p5,p6,p7,lp,P⟩:=h;clear P p0;go_enter Tryz.func173,Tryz.ntmps173;go_wp2_with fail
 try simp only [List.append]
 refine wp_region_quiet_lit (by kernel_rfl) a3f ?_
 repeat (go_big_quiet_step ((go_at_call 78;first | (refine Calls.quiet_of_same (uD _ _ _ true ?_ _);assumption) | (refine Calls.quiet_of_same (uD _ _ _ false ?_ _);assumption))))
 refine wpQuiet_nil ?_;intro _ hw';obtain⟨nq,hw''⟩:=hw';subst hw'';go_wp2_with fail;go_ret;exact⟨rfl,Ext.drewN (Ext.refl w) _⟩
theorem used_3(x:Hp)(c:Cl)(b bn q bc r:Nat)(ap:Option Addr)(kp:Nat)(w:World)(v2:w.cell? ⟨b,2,none⟩=some (iv x.born))(m1:w.cell? ⟨bn,q+1,none⟩=some (.pointer (some ⟨bc,r,none⟩)))(h:CAt w bc r c ap kp)(q0:uQ c.kind 0 255=true)(q1:uQ c.weak 0 3=true)(q2:uQ c.last 0 3=true)(q3:uQ c.born 1 x.born=false):
  Calls Tryz.prog 173 #[.pointer (some ⟨b,0,none⟩),.pointer (some ⟨bn,q,none⟩)] w λe w'=>e=.returned (.bool false)/\Ext w w':=by
 obtain⟨p0,p1,p2,p3,p4,p5,p6,p7,lp,P⟩:=h;clear P p0;go_enter Tryz.func173,Tryz.ntmps173;go_wp2_with fail
 try simp only [List.append]
 refine wp_region_quiet_lit (by kernel_rfl) a3f ?_
 repeat (go_big_quiet_step ((go_at_call 78;first | (refine Calls.quiet_of_same (uD _ _ _ true ?_ _);assumption) | (refine Calls.quiet_of_same (uD _ _ _ false ?_ _);assumption))))
 refine wpQuiet_nil ?_;intro _ hw';obtain⟨nq,hw''⟩:=hw';subst hw'';go_wp2_with fail;go_ret;exact⟨rfl,Ext.drewN (Ext.refl w) _⟩
theorem used_4(x:Hp)(c:Cl)(b bn q bc r:Nat)(ap:Option Addr)(kp:Nat)(w:World)(v2:w.cell? ⟨b,2,none⟩=some (iv x.born))(m1:w.cell? ⟨bn,q+1,none⟩=some (.pointer (some ⟨bc,r,none⟩)))(h:CAt w bc r c ap kp)(q0:uQ c.kind 0 255=true)(q1:uQ c.weak 0 3=true)(q2:uQ c.last 0 3=true)(q3:uQ c.born 1 x.born=true)(q4:uQ c.color 0 2=false):
  Calls Tryz.prog 173 #[.pointer (some ⟨b,0,none⟩),.pointer (some ⟨bn,q,none⟩)] w λe w'=>e=.returned (.bool false)/\Ext w w':=by
 obtain⟨p0,p1,p2,p3,p4,p5,p6,p7,lp,P⟩:=h;clear P p0;go_enter Tryz.func173,Tryz.ntmps173;go_wp2_with fail
 try simp only [List.append]
 refine wp_region_quiet_lit (by kernel_rfl) a3f ?_
 repeat (go_big_quiet_step ((go_at_call 78;first | (refine Calls.quiet_of_same (uD _ _ _ true ?_ _);assumption) | (refine Calls.quiet_of_same (uD _ _ _ false ?_ _);assumption))))
 refine wpQuiet_nil ?_;intro _ hw';obtain⟨nq,hw''⟩:=hw';subst hw'';go_wp2_with fail;go_ret;exact⟨rfl,Ext.drewN (Ext.refl w) _⟩
theorem used_5(x:Hp)(c:Cl)(b bn q bc r:Nat)(ap:Option Addr)(kp:Nat)(w:World)(v2:w.cell? ⟨b,2,none⟩=some (iv x.born))(m1:w.cell? ⟨bn,q+1,none⟩=some (.pointer (some ⟨bc,r,none⟩)))(h:CAt w bc r c ap kp)(q0:uQ c.kind 0 255=true)(q1:uQ c.weak 0 3=true)(q2:uQ c.last 0 3=true)(q3:uQ c.born 1 x.born=true)(q4:uQ c.color 0 2=true)(q5:(c.to == 0)=false):
  Calls Tryz.prog 173 #[.pointer (some ⟨b,0,none⟩),.pointer (some ⟨bn,q,none⟩)] w λe w'=>e=.returned (.bool false)/\Ext w w':=by
 obtain⟨p0,p1,p2,p3,p4,p5,p6,p7,lp,P⟩:=h;clear P p0;go_enter Tryz.func173,Tryz.ntmps173;go_wp2_with fail
 try simp only [List.append]
 refine wp_region_quiet_lit (by kernel_rfl) a3f ?_
 repeat (go_big_quiet_step ((go_at_call 78;first | (refine Calls.quiet_of_same (uD _ _ _ true ?_ _);assumption) | (refine Calls.quiet_of_same (uD _ _ _ false ?_ _);assumption))))
 refine wpQuiet_nil ?_;intro _ hw';obtain⟨nq,hw''⟩:=hw';subst hw'';go_wp2_with fail;go_ret;exact⟨rfl,Ext.drewN (Ext.refl w) _⟩
theorem used_6(x:Hp)(c:Cl)(b bn q bc r:Nat)(ap:Option Addr)(kp:Nat)(w:World)(v2:w.cell? ⟨b,2,none⟩=some (iv x.born))(m1:w.cell? ⟨bn,q+1,none⟩=some (.pointer (some ⟨bc,r,none⟩)))(h:CAt w bc r c ap kp)(q0:uQ c.kind 0 255=true)(q1:uQ c.weak 0 3=true)(q2:uQ c.last 0 3=true)(q3:uQ c.born 1 x.born=true)(q4:uQ c.color 0 2=true)(q5:(c.to == 0)=true)(q6:decide ((c.prs.length:Int)<=200)=false):
  Calls Tryz.prog 173 #[.pointer (some ⟨b,0,none⟩),.pointer (some ⟨bn,q,none⟩)] w λe w'=>e=.returned (.bool false)/\Ext w w':=by
 obtain⟨p0,p1,p2,p3,p4,p5,p6,p7,lp,P⟩:=h;clear P p0;go_enter Tryz.func173,Tryz.ntmps173;go_wp2_with fail
 try simp only [List.append]
 refine wp_region_quiet_lit (by kernel_rfl) a3f ?_
 repeat (go_big_quiet_step ((go_at_call 78;first | (refine Calls.quiet_of_same (uD _ _ _ true ?_ _);assumption) | (refine Calls.quiet_of_same (uD _ _ _ false ?_ _);assumption))))
 refine wpQuiet_nil ?_;intro _ hw';obtain⟨nq,hw''⟩:=hw';subst hw'';go_wp2_with fail;go_ret;exact⟨rfl,Ext.drewN (Ext.refl w) _⟩
theorem used_7(x:Hp)(c:Cl)(b bn q bc r:Nat)(ap:Option Addr)(kp:Nat)(w:World)(v2:w.cell? ⟨b,2,none⟩=some (iv x.born))(m1:w.cell? ⟨bn,q+1,none⟩=some (.pointer (some ⟨bc,r,none⟩)))(h:CAt w bc r c ap kp)(q0:uQ c.kind 0 255=true)(q1:uQ c.weak 0 3=true)(q2:uQ c.last 0 3=true)(q3:uQ c.born 1 x.born=true)(q4:uQ c.color 0 2=true)(q5:(c.to == 0)=true)(q6:decide ((c.prs.length:Int)<=200)=true):
  Calls Tryz.prog 173 #[.pointer (some ⟨b,0,none⟩),.pointer (some ⟨bn,q,none⟩)] w λe w'=>e=.returned (.bool true)/\Ext w w':=by
 obtain⟨p0,p1,p2,p3,p4,p5,p6,p7,lp,P⟩:=h;clear P p0;go_enter Tryz.func173,Tryz.ntmps173;go_wp2_with fail
 try simp only [List.append]
 refine wp_region_quiet_lit (by kernel_rfl) a3f ?_
 repeat (go_big_quiet_step ((go_at_call 78;first | (refine Calls.quiet_of_same (uD _ _ _ true ?_ _);assumption) | (refine Calls.quiet_of_same (uD _ _ _ false ?_ _);assumption))))
 refine wpQuiet_nil ?_;intro _ hw';obtain⟨nq,hw''⟩:=hw';subst hw'';go_wp2_with fail;go_ret;exact⟨rfl,Ext.drewN (Ext.refl w) _⟩
theorem b6q(x:Hp)(c:Cl)(b bn q bc r:Nat)(ap:Option Addr)(kp:Nat)(w:World)(v2:w.cell? ⟨b,2,none⟩=some (iv x.born))(m1:w.cell? ⟨bn,q+1,none⟩=some (.pointer (some ⟨bc,r,none⟩)))(h:CAt w bc r c ap kp):
  Calls Tryz.prog 173 #[.pointer (some ⟨b,0,none⟩),.pointer (some ⟨bn,q,none⟩)] w λe w'=>∃r:Bool,Hid (e=.returned (.bool r))/\(r=true↔a3h x c)/\Ext w w':=by
 cases q0:uQ c.kind 0 255
 ·exact(used_0 x c b bn q bc r ap kp w v2 m1 h q0).mono λ_ _ ⟨he,hx⟩=>⟨false,he,⟨λf=>by simp at f,λu=>by exfalso;exact a0a q0 u.1⟩,hx⟩
 cases q1:uQ c.weak 0 3
 ·exact(used_1 x c b bn q bc r ap kp w v2 m1 h q0 q1).mono λ_ _ ⟨he,hx⟩=>⟨false,he,⟨λf=>by simp at f,λu=>by exfalso;exact a0a q1 u.2.1⟩,hx⟩
 cases q2:uQ c.last 0 3
 ·exact(used_2 x c b bn q bc r ap kp w v2 m1 h q0 q1 q2).mono λ_ _ ⟨he,hx⟩=>⟨false,he,⟨λf=>by simp at f,λu=>by exfalso;exact a0a q2 u.2.2.1⟩,hx⟩
 cases q3:uQ c.born 1 x.born
 ·exact(used_3 x c b bn q bc r ap kp w v2 m1 h q0 q1 q2 q3).mono λ_ _ ⟨he,hx⟩=>⟨false,he,⟨λf=>by simp at f,λu=>by exfalso;exact a0a q3 u.2.2.2.1⟩,hx⟩
 cases q4:uQ c.color 0 2
 ·exact(used_4 x c b bn q bc r ap kp w v2 m1 h q0 q1 q2 q3 q4).mono λ_ _ ⟨he,hx⟩=>⟨false,he,⟨λf=>by simp at f,λu=>by exfalso;exact a0a q4 u.2.2.2.2.1⟩,hx⟩
 cases q5:(c.to == 0)
 ·exact(used_5 x c b bn q bc r ap kp w v2 m1 h q0 q1 q2 q3 q4 q5).mono λ_ _ ⟨he,hx⟩=>⟨false,he,⟨λf=>by simp at f,λu=>by exfalso;have:=u.2.2.2.2.2.1;simp at q5;omega⟩,hx⟩
 cases q6:decide ((c.prs.length:Int)<=200)
 ·exact(used_6 x c b bn q bc r ap kp w v2 m1 h q0 q1 q2 q3 q4 q5 q6).mono λ_ _ ⟨he,hx⟩=>⟨false,he,⟨λf=>by simp at f,λu=>by exfalso;exact of_decide_eq_false q6 (by have:=u.2.2.2.2.2.2;omega)⟩,hx⟩
 exact(used_7 x c b bn q bc r ap kp w v2 m1 h q0 q1 q2 q3 q4 q5 q6).mono λ_ _ ⟨he,hx⟩=>⟨true,he,⟨λ_=>⟨uW q0,uW q1,uW q2,uW q3,uW q4,by simpa using q5,by have:=of_decide_eq_true q6;omega⟩,λ_=>rfl⟩,hx⟩
theorem infoInt:(Tryz.prog.info? 3).map (λi=>(i.zero,i.size,i.bytes))=some (some (.int .i64 0),1,8):=by kernel_rfl
theorem c4w{w w1:World}{base bq oq g cap:Nat}{v:Value}{L:List Int}{x:Int}{o:Obj}(h:eX w base bq oq v L)
  (hown:w1.ownsRow base 3 1 (.slice (some ⟨g,0,none⟩) (L.length+1) cap) (L.length+1) (L.map iv++[iv x])) (hg:(w.alloc o).grownBy w1 v.ownBlock) (hat:v.ownBlock=some g\/g=w.heap.size+1) :
  eX (w1.setCell ⟨bq,oq,none⟩ (.slice (some ⟨g,0,none⟩) (L.length+1) cap)) base bq oq (.slice (some ⟨g,0,none⟩) (L.length+1) cap) (L++[x])/\
  QFr bq oq v (.slice (some ⟨g,0,none⟩) (L.length+1) cap) w (w1.setCell ⟨bq,oq,none⟩ (.slice (some ⟨g,0,none⟩) (L.length+1) cap))/\w1.cell? ⟨bq,oq,none⟩=some v/\w1.frozen? ⟨bq,oq,none⟩=false:=by
 have hlt:=h.hlt
 have hne:g≠bq:=by
  rcases hat with e | e
  ·intro q;exact h.apart (q ▸ e)
  ·omega
 have hs1:w.heap.size+1<=w1.heap.size:=by have:=hg.size;simpa using this
 have hb:∀k,k<w.heap.size->v.ownBlock≠some k->w1.heap[k]?=w.heap[k]?:=λk hk hv=>
  (hg.block k (by simp;omega) (λe=>hv e.symm)).trans (Below.heap_alloc w o k hk)
 have hbq:w1.heap[bq]?=w.heap[bq]?:=hb bq hlt h.apart;have hc:w1.cell? ⟨bq,oq,none⟩=some v:=(World.cell?_of_block (a:=⟨bq,oq,none⟩) hbq).trans h.hd;have hf:w1.frozen? ⟨bq,oq,none⟩=false:=(World.frozen?_of_block (a:=⟨bq,oq,none⟩) hbq).trans h.hf;refine⟨⟨World.cell?_setCell_same _ _ _ hc,by rw[World.frozen?_setCell];exact hf,?_,λe=>hne (by simpa [Value.ownBlock] using e)⟩,⟨?_,?_,?_,?_,λk hk h1 h2=>?_,λo' ho=>?_,λo'=>?_,?_⟩,hc,hf⟩
 ·refine uN (by simpa using hown) (λk hk=>Below.heap_setCell _ _ _ _ ?_);simp [Value.ownBlock] at hk;show k≠bq;omega
 ·exact hg.os
 ·exact hg.tape
 ·exact hg.output
 ·have:(w1.setCell ⟨bq,oq,none⟩ (.slice (some ⟨g,0,none⟩) (L.length+1) cap)).heap.size=w1.heap.size:=by simp [World.setCell]
  omega
 ·rw[Below.heap_setCell _ _ _ _ (show k≠bq from h1)];exact hb k hk h2
 ·rw[uC _ (.inr (λe=>ho e.symm))];exact World.cell?_of_block (a:=⟨bq,o',none⟩) hbq
 ·rw[World.frozen?_setCell];exact World.frozen?_of_block (a:=⟨bq,o',none⟩) hbq
 ·rcases hat with e | e
  ·exact .inl e.symm
  ·exact .inr ⟨g,rfl,by omega⟩
theorem b6r(w:World)(base bq oq:Nat)(v:Value)(L:List Int)(x:Int)(h:eX w base bq oq v L)(hb:base<=w.heap.size)(ho:Ho L)(hn:L.length<=1000000000):
  Calls Tryz.prog 107 #[.pointer (some ⟨bq,oq,none⟩),.int .i64 x] w λe w'=>e=.returned (.tuple #[])/\∃v' L',eX w' base bq oq v' L'/\Ho L'/\L'.Perm (x::L)/\QFr bq oq v v' w w':=by
 obtain⟨i0,hi,hz0,hz1,hz2⟩:=info_parts infoInt;have hd:=h.hd;have hf:=h.hf;have hlt:=h.hlt;have HL:=uU h;have HO:=uU (a9b.start ho x);clear h ho;go_enter Tryz.func107,Tryz.ntmps107;go_wp2_with (at_builtin;refine wpList_append_lies _ rfl _ _ 32 rfl base 3 i0 (.int .i64 0) 1 8 Tryz.underlying32 hi hz0 hz1 hz2 rfl (by decide) v L.length (L.map iv) rfl (HL.own.alloc _) ⟨w.heap.size,0,none⟩ 1 1 [.int .i64 x] rfl rfl ?c1 ?c2 (by decide) ?c3 ?c4 ?c5 (w.heap.size+1) (by simp) ?_)
 case c1=>
  intro j u hj
  match j,hj with
  | 0,hj=>simp at hj;subst hj;simp [Addr.add]
 case c2=>intro u hu;simp at hu;subst hu;rfl
 case c3=>unfold maxLen;omega
 case c4=>omega
 case c5=>simp;omega
 intro g cap w1 hown hgrow hat hglt;obtain⟨P1,P2,P3,P4⟩:=c4w HL hown hgrow hat;have Q1:=uU P1;have Q2:=uU P2;clear hown hgrow hat P1 P2 hd hf;go_wp2_with fail;go_loopw [4] (λsi wr=>∃(a:Nat) (M:List Int),a<M.length/\si=.int .i64 a/\M.length=L.length+1/\eX wr base bq oq (.slice (some ⟨g,0,none⟩) (L.length+1) cap) M/\a9b M a/\M.Perm (x::L)/\QFr bq oq v (.slice (some ⟨g,0,none⟩) (L.length+1) cap) w wr) (λsi _=>(intOf si).toNat)
 case atStart=>exact⟨L.length,L++[x],by simp,by go_num,by simp,Q1,HO,List.perm_append_singleton _ _,Q2⟩
 case round=>
  clear HO HL P3 P4 Q1 Q2;obtain⟨a,M,ha,rfl,hM,hls,hr,hp,hq⟩:=hrel;have HLS:=uU hls;have HR:=uU hr;have HP:=uU hp;have HQ:=uU hq;have hd:=hls.hd;obtain⟨xa,hxa⟩:∃z,it M a=z:=⟨_,rfl⟩;have ca:=hls.cell a ha;rw[hxa] at ca;by_cases h0:0<a
  ·obtain⟨u,hu⟩:∃u,u=(a-1) / 2:=⟨_,rfl⟩;have hum:u<M.length:=by omega
   obtain⟨xu,hxu⟩:∃z,it M u=z:=⟨_,rfl⟩;have cu:=hls.cell u hum;rw[hxu] at cu
   have hq2:((a:Int)-1).tdiv 2=(u:Int):=by
    rw[Int.tdiv_eq_ediv_of_nonneg (by omega)];omega
   have i0:(0:Int)<(a:Int):=by omega
   have i1:(0:Int)<=(a:Int):=by omega
   have i2:(a:Int)<(L.length:Int)+1:=by omega
   have i3:(0:Int)<=(u:Int):=by omega
   have i4:(u:Int)<(L.length:Int)+1:=by omega
   have hua:u<a:=by omega
   have HU:=uU hu;clear hls hr hp hq hu;by_cases hc:xu<=xa
   ·have Y:=uU (a9b.done HR (by rw[<-uH HU,hxu,hxa];exact hc));go_wp2_with fail;go_quiet (fail);go_wp2_with fail
    try simp only [Exit.inBlock,Exit.then]
    refine bodyPost_ret (results_none rfl _ _ _) rfl ?_;exact⟨rfl,_,M,HLS.ext ((Ext.refl _).drewN _),Y,HP,HQ.drewN _⟩
   ·have hc2:decide (xu<=xa)=false:=decide_eq_false hc;have hc3:xa<xu:=by omega
    have R2:=uU (a9b.up HR h0 ha HU (by rw[hxu,hxa];exact hc3));clear hc hc3;go_wp2_with fail;go_quiet (fail);go_wp2_with fail;refine(c3d _ base bq oq g (L.length+1) cap u a M (HLS.ext ((Ext.refl _).drewN _)) (by omega) (by omega)).mono ?_;rintro e w2 ⟨rfl,ls2,q2⟩;have LS2:=uU ls2;have QF2:=uU ((HQ.drewN _).trans q2);clear ls2 q2;go_wp2_with fail;go_roundw
    case rel=>exact⟨u,swp M u a,by rw[a0s];omega,by go_num,by rw[a0s];omega,LS2,R2,(a4a M u a hum ha).trans HP,QF2⟩
    case measure=>simp [intOf];omega
  ·have h00:a=0:=by omega
   subst h00;have Y:=uU (a9b.top HR);clear hls hr hp hq;go_wp2_with fail
   go_end0
   exact⟨rfl,_,M,HLS,Y,HP,HQ⟩
end Go.Proofs.YtddkhnclmeikfaaGreat
