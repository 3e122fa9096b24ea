import Derived.Test.YtddkhnclmeikfaaGreatPh
import Derived.Test.YtddkhnclmeikfaaGreatPs
import Derived.Test.YtddkhnclmeikfaaGreatPl
import Derived.Test.YtddkhnclmeikfaaGreatPy
import Derived.Test.YtddkhnclmeikfaaGreatDn3
set_option maxRecDepth 100000
set_option maxHeartbeats 1000000
namespace Go.Proofs.YtddkhnclmeikfaaGreat
open Go.RowKit
attribute [local go_sem ↓] Go.wp_at_zero Go.wp_at_succ
theorem move_end[Inhabited ProtD]{B:Nat}{w:World}{b:Nat}{x:Hp}{ar:Option Addr}{kr:Nat}{v4 v8:Value}{br bn:Nat}{cB cO:Nat→Nat}{pb:Nat→Nat}{pa:Nat→Option Addr}{pk:Nat→Nat}{kn hd:Nat}{vf:Value}{F:List Int}{vk:Value}{K:List Nat}{role:Nat→Nat}(h:SAt B w b x ar kr v4 v8 br cB cO bn pb pa pk kn hd vf F vk K role)(hp:x.phase=4)(a:World)(ha:a.heap.size≤B)(hx:Ext a w):
  Calls Tryz.prog 143 #[.pointer (some ⟨b,0,none⟩)] (w.setCell ⟨b,4017,none⟩ (.slice none 0 0)) fun e w'=>e=.returned (nowV 5 b)∧Hid (SAt B w' b (toPh x 5 0) ar kr v4 v8 br cB cO bn pb pa pk kn hd vf F (.slice none 0 0) [] role)∧Ext a w':=by
 have h2:=h.keptAs (vk':=.slice none 0 0) (K':=[]) (World.ownsRow_nil _ _ _ _) (fun q hq=>by simp [Value.ownBlock] at hq);exact turn_low h2 4 hp rfl rfl (by omega) a ha (hx.setCell (p:=⟨b,4017,none⟩) (Nat.le_trans ha h.sb.lo.1) _)
theorem move_any[Inhabited ProtD]{C:Nat}{B:Nat}{w:World}{b:Nat}{x:Hp}{ar:Option Addr}{kr:Nat}{v4 v8:Value}{br bn:Nat}{cB cO:Nat→Nat}{pb:Nat→Nat}{pa:Nat→Option Addr}{pk:Nat→Nat}{kn hd:Nat}{vf:Value}{F:List Int}{vk:Value}{K:List Nat}{role:Nat→Nat}(h:SAt B w b x ar kr v4 v8 br cB cO bn pb pa pk kn hd vf F vk K role)(i:SInv C x F K)(hC:C≤1000000000)(s:Snd x)(hp:x.phase=4)(a:World)(ha:a.heap.size≤B)(hx:Ext a w):
  Calls Tryz.prog 333 #[.agg #[.pointer (some ⟨b,0,none⟩)]] w fun e w'=>e=.returned (nowV (unit4 x).phase b)∧Hid (∃pb' pa' pk' vf' F' vk' K' role',SAt B w' b (unit4 x) ar kr v4 v8 br cB cO bn pb' pa' pk' kn hd vf' F' vk' K' role'∧SInv C (unit4 x) F' K')∧Ext a w':=by
 have XA:=(Ext.refl w).alloc (.cells #[.pointer (some ⟨b,0,none⟩)] 236);have GP:=hide (gap_any (h.ext XA) i.ho (by have:=i.le;omega) i.nn);have H:=hide (h.ext XA);have S:=hide s;have I:=hide i;have HP:=hide hp;have XS:=hide (hx.trans XA);have m0:(w.alloc (.cells #[.pointer (some ⟨b,0,none⟩)] 236)).cell? ⟨w.heap.size,0,none⟩=some (.pointer (some ⟨b,0,none⟩)):=by simp [go_sem]
 have hbw:b<w.heap.size:=h.sb.nb.1;have lo:=h.sb.lo.1
 have hK:K.length≤8000:=by
  have k4:=i.k4 hp;have:=nd_len x.cells.length K (k4.1.imp (fun h=>Nat.ne_of_lt h)) (fun i hi=>(k4.2.1 i hi).1);have:=s.ok.n8;omega
 have FARB:=hide (show ∀q,vf.ownBlock=some q→q<w.heap.size from fun q hq=>(h.sb.fr.own.lt q hq).2);have nsb:¬w.heap.size=b:=by omega
 have BRC:=hide (show br<w.heap.size∧(∀j,j<x.cells.length→cB j<w.heap.size) from⟨(h.rw.nr (by have:=s.r1.regs;omega)).1.1,fun j hn=>(h.rw.nc j hn).1.1⟩);clear h s i hp XA;go_enter Tryz.func333,Tryz.ntmps333;go_wp2_with fail;refine(unhide GP).mono ?_;rintro e w1 ⟨t,vf',F',rfl,lq,gl⟩;have q1:=(unhide lq).2;have NF:Nf1 b w1:=⟨Nat.lt_of_lt_of_le (unhide H).sb.nb.1 q1.size,fun j=>(q1.hfr j).trans ((unhide H).sb.nb.2 j)⟩;obtain⟨role1,h1⟩:=(unhide H).freed (unhide lq).1 q1 NF;have H1:=hide h1;have X1:=hide (q1.ext (unhide XS) (show a.heap.size≤b by omega) (fun k hk=>by have:=((unhide H).sb.fr.own.lt k hk).1;omega));have m1:w1.cell? ⟨w.heap.size,0,none⟩=some (.pointer (some ⟨b,0,none⟩)):=q1.cells m0 nsb (fun e=>by have:=unhide FARB _ e;omega);have k17:=h1.sb.k0;have f17:=h1.sb.nb.2 4017;obtain⟨avk,kvk,hvk⟩:∃a k,vk=.slice a K.length k:=⟨_,_,(own_form h1.sb.kp).1⟩;subst hvk;have hb1:b<w1.heap.size:=h1.sb.nb.1;have hs1:w.heap.size<w1.heap.size:=cell_lt m1
 have ME:=hide (show ∀W,Ext w1 W→unit4 x=toPh x 5 0→Calls Tryz.prog 143 #[.pointer (some ⟨b,0,none⟩)] (W.setCell ⟨b,4017,none⟩ (.slice none 0 0)) fun e w'=>e=.returned (nowV (unit4 x).phase b)∧Hid (∃pb' pa' pk' vf' F' vk' K' role',SAt B w' b (unit4 x) ar kr v4 v8 br cB cO bn pb' pa' pk' kn hd vf' F' vk' K' role'∧SInv C (unit4 x) F' K')∧Ext a w' from fun W xw e4=>by
  refine(move_end (h1.ext xw) (unhide HP) a ha ((unhide X1).trans xw)).mono ?_;rintro e w2 ⟨rfl,h2,x2⟩;rw[e4];exact⟨rfl,⟨_,_,_,_,_,_,_,_,unhide h2,inv4_end (unhide I) (unhide HP) (unhide gl).1⟩,x2⟩)
 clear h1 q1 lq NF m0 H XS;have nbs:¬b=w.heap.size:=by omega
 rcases t with _ | j
 ·have E4:=hide (done_none (unhide I) (unhide gl).1 (unhide gl).2);simp only [gapV];go_wp2_with fail;go_quiet (fail);obtain⟨d1,hd1⟩:∃m,m=nq:=⟨_,rfl⟩;go_wp2_with fail;refine(unhide ME _ ((Ext.refl _).drewN _) (unhide E4)).mono ?_;rintro e w2 ⟨rfl,h2,x2⟩;go_wp2_with fail;go_ret;exact⟨rfl,h2,x2⟩
 ·simp only [gapV];have GT:=hide (show j<x.cells.length∧(x.c j).st=0∧∀v,v∈F'→(j:Int)≤v from(unhide gl).2);have hjn:j<x.cells.length:=(unhide GT).1;rcases List.eq_nil_or_concat K with hK0 | ⟨K0,l,hK0⟩
  ·subst hK0;have E4:=hide (done_nil (unhide I) (unhide HP));simp only [List.length_nil] at k17;go_wp2_with fail;go_quiet (fail);obtain⟨d1,hd1⟩:∃m,m=nq:=⟨_,rfl⟩;go_wp2_with fail;refine(unhide ME _ ((Ext.refl _).drewN _) (unhide E4)).mono ?_;rintro e w2 ⟨rfl,h2,x2⟩;go_wp2_with fail;go_ret;exact⟨rfl,h2,x2⟩
  ·rw[List.concat_eq_append] at hK0;subst hK0;obtain⟨m,hm⟩:∃m,m=K0.length:=⟨_,rfl⟩;have hlen:(K0++[l]).length=m+1:=by simp [hm]
   obtain⟨g,cap,hv,_,_⟩:=(unhide H1).sb.kp.form (by rw[hlen];omega)
   injection hv with hv1 hv2 hv3
   subst hv1 hv3;have ow:=(unhide H1).sb.kp
   have kc:w1.cell? ⟨g,m,none⟩=some (ndp bn l):=by
    rw[ow.cellAt m (by rw[hlen];omega)];simp [hm]
   have LL:=hide (((unhide I).k4 (unhide HP)).2.1 l (by simp));have hln:l<x.cells.length:=(unhide LL).1;have nj0:=((unhide H1).sb.nd j hjn).1;have nl0:=((unhide H1).sb.nd l hln).1;rw[hlen] at k17 hK;have HL:=hide hlen;have HM:=hide hm;have hm0:(0:Int)≤(m:Int):=by omega
   have hm1:(m:Int)<(m:Int)+1:=by omega
   have mc:(m:Int)≤(kvk:Int):=by
    rcases ow.2 with⟨e,_⟩ | ⟨g',cap',cur,e1,_,_,e4,_⟩
    ·simp at e
    ·injection e1 with _ _ e1
     rw[hlen] at e4;omega
   clear hm hlen hv2 ow;by_cases hlj:l<j
   ·have E4:=hide (done_past (unhide I) (unhide HP) (unhide gl).1 (unhide gl).2 hlj);have gt:(j:Int) > (l:Int):=by omega
    go_wp2_with fail;go_quiet (fail);obtain⟨d1,hd1⟩:∃m,m=nq:=⟨_,rfl⟩;go_wp2_with fail;refine(unhide ME _ ((Ext.refl _).drewN _) (unhide E4)).mono ?_;rintro e w2 ⟨rfl,h2,x2⟩;go_wp2_with fail;go_ret;exact⟨rfl,h2,x2⟩
   ·have gt:¬(j:Int) > (l:Int):=by omega
    have GM:=hide (go_move (unhide I) (unhide HP) (unhide gl).1 (unhide gl).2 hlj);have EP:=hide (show(unit4 x).phase=4 by rw[(unhide GM).2.2.1];exact unhide HP)
    have FIN:=hide (show ∀w3,(∃pb' pa' pk' role',SAt B w3 b (moveH x j l) ar kr v4 v8 br cB cO bn pb' pa' pk' kn hd vf' F' (.slice (some ⟨g,0,none⟩) (K0++[l]).length kvk) (K0++[l]) role')→Ext a w3→∀W',Ext w3 W'→Hid (∃pb' pa' pk' vf' F' vk' K' role',SAt B (W'.setCell ⟨b,4017,none⟩ (.slice (some ⟨g,0,none⟩) m kvk)) b (unit4 x) ar kr v4 v8 br cB cO bn pb' pa' pk' kn hd vf' F' vk' K' role'∧SInv C (unit4 x) F' K')∧Ext a (W'.setCell ⟨b,4017,none⟩ (.slice (some ⟨g,0,none⟩) m kvk)) from fun w3 h3 x3 W' xw=>by
     obtain⟨pb',pa',pk',role',h3⟩:=h3;have h4:=h3.ext xw;have ow:=own_short1 h4.sb.kp;rw[←unhide HM] at ow;rw[(unhide GM).2.2.1];refine⟨⟨pb',pa',pk',vf',F',_,K0,role',h4.keptAs (by rw[←unhide HM];exact ow) (fun q hq=>hq),(unhide GM).2.2.2⟩,(x3.trans xw).setCell (p:=⟨b,4017,none⟩) (show a.heap.size≤b by omega) _⟩)
    go_wp2_with fail;go_quiet (fail);obtain⟨d1,hd1⟩:∃m,m=nq:=⟨_,rfl⟩;go_wp2_with fail;go_region_with (go_at_call 334;refine(carry_any ((unhide H1).ext (((Ext.refl w1).drewN _).drew)) (unhide S) j l (unhide GM).2.1 hjn hln a ha ((unhide X1).trans (((Ext.refl w1).drewN _).drew))).mono ?_;rintro e w3 ⟨rfl,h3,x3⟩)
    all_goals
     have Y3:=hide (show ∃pb' pa' pk' role',SAt B w3 b (moveH x j l) ar kr v4 v8 br cB cO bn pb' pa' pk' kn hd vf' F' (.slice (some ⟨g,0,none⟩) (K0++[l]).length kvk) (K0++[l]) role' by obtain⟨pb',pa',pk',role',q3,_⟩:=unhide h3;exact⟨_,_,_,_,q3⟩)
     have t17:w3.cell? ⟨b,4017,none⟩=some (.slice (some ⟨g,0,none⟩) (m+1) kvk):=by
      obtain⟨pb',pa',pk',role',q3⟩:=unhide Y3;have:=q3.sb.k0;rw[unhide HL] at this;exact this
     have u17:w3.frozen? ⟨b,4017,none⟩=false:=by
      obtain⟨pb',pa',pk',role',q3⟩:=unhide Y3;exact q3.sb.nb.2 4017
     have t0:w3.cell? ⟨w.heap.size,0,none⟩=some (.pointer (some ⟨b,0,none⟩)):=by
      obtain⟨pb',pa',pk',role',_,q3⟩:=unhide h3;exact(World.cell?_of_block (a:=⟨w.heap.size,0,none⟩) (q3 w.heap.size (by simpa using hs1) (fun e=>by have:=(unhide BRC).1;omega) (fun j hj e=>by have:=(unhide BRC).2 j hj;omega))).trans m1
     have hb3:b<w3.heap.size:=cell_lt t17;have hs3:w.heap.size<w3.heap.size:=cell_lt t0;have FN:=hide (unhide FIN w3 (unhide Y3) x3);clear h3 k17 f17 kc nj0 nl0;go_wp2_with fail
     go_region
     all_goals
      go_wp2_with fail;go_ret;exact⟨by rw[unhide EP];rfl,(unhide FN w3.drew (Ext.refl w3).drew).1,(unhide FN w3.drew (Ext.refl w3).drew).2⟩
def SOq[Inhabited ProtD](C B:Nat)(w:World)(b:Nat)(x:Hp):Prop:=∃ar kr a4 n4 k4 a8 m8 k8 br cB cO bn pb pa pk kn hd vf F vk K role,SAt B w b x ar kr (.slice a4 n4 k4) (.slice a8 m8 k8) br cB cO bn pb pa pk kn hd vf F vk K role∧SInv C x F K∧2*x.room≤(kn:Int)∧(default:ProtD).z bn=none
theorem SOq.ext[Inhabited ProtD]{C B:Nat}{w w':World}{b:Nat}{x:Hp}(h:SOq C B w b x)(e:Ext w w'):SOq C B w' b x:=by
 obtain⟨ar,kr,a4,n4,k4,a8,m8,k8,br,cB,cO,bn,pb,pa,pk,kn,hd,vf,F,vk,K,role,h,i⟩:=h;exact⟨ar,kr,a4,n4,k4,a8,m8,k8,br,cB,cO,bn,pb,pa,pk,kn,hd,vf,F,vk,K,role,h.ext e,i⟩
theorem shadeW_room(x:Hp)(y:Wd):(shadeW x y).room=x.room:=by
 unfold shadeW
 split
 ·exact(shade_same x _).1
 ·rfl
theorem fold_room:∀(ys:List Wd) (z:Hp),(ys.foldl shadeW z).room=z.room
 | [],_=>rfl
 | y::ys,z=>(fold_room ys (shadeW z y)).trans (shadeW_room z y)
theorem uroom1(x:Hp):(unit1 x).room=x.room:=by
 unfold unit1
 split
 ·rfl
 ·by_cases e:spkB (x.c x.hand.toNat)=true
  ·simp only [if_pos e];exact(shade_same x _).1
  ·simp only [if_neg e]
theorem uroom2(x:Hp):(unit2 x).room=x.room:=by
 unfold unit2
 split
 ·split
  ·exact(shadeW_room _ _).trans (shadeW_room _ _)
  ·rfl
 ·split
  ·exact fold_room x.regs x
  ·exact fold_room x.regs x
theorem uroom3(x:Hp):(unit3 x).room=x.room:=by
 unfold unit3
 split
 ·rfl
 ·split <;> rfl
theorem uroom4(x:Hp):(unit4 x).room=x.room:=by
 unfold unit4
 split <;> rfl
theorem uroom5(x:Hp):(unit5 x).room=x.room:=by
 unfold unit5
 split
 ·rfl
 ·split <;> rfl
theorem uroom6(x:Hp):(unit6 x).room=x.room:=by
 unfold unit6 dropH
 split
 ·rfl
 ·split <;> rfl
theorem unit1_any[Inhabited ProtD]{C B:Nat}{w:World}{b:Nat}{x:Hp}(h:SOq C B w b x)(s:Snd x)(hp:x.phase=1)(a:World)(ha:a.heap.size≤B)(hx:Ext a w):
  Calls Tryz.prog 328 #[.agg #[.pointer (some ⟨b,0,none⟩)]] w fun e w'=>e=.returned (nowV (unit1 x).phase b)∧Hid (SOq C B w' b (unit1 x))∧Ext a w':=by
 obtain⟨ar,kr,a4,n4,k4,a8,m8,k8,br,cB,cO,bn,pb,pa,pk,kn,hd,vf,F,vk,K,role,h,i,hk⟩:=h;have hh:=s.r1.hand;have lk:2*(unit1 x).room≤(kn:Int)∧(default:ProtD).z bn=none:=by rw[uroom1];exact hk
 by_cases he:x.hand=x.cells.length
 ·refine(roots_end h hp he a ha hx).mono ?_;rintro e w' ⟨rfl,h2,x2⟩;exact⟨rfl,⟨_,_,_,_,_,_,_,_,_,_,_,_,_,_,_,_,_,_,_,_,_,_,unhide h2,inv1 i hp,lk⟩,x2⟩
 ·refine(roots_cell h s hp x.hand.toNat (by omega) (by omega) a ha hx).mono ?_;rintro e w' ⟨rfl,h2,x2⟩;exact⟨rfl,⟨_,_,_,_,_,_,_,_,_,_,_,_,_,_,_,_,_,_,_,_,_,_,unhide h2,inv1 i hp,lk⟩,x2⟩
theorem unit2_any[Inhabited ProtD]{C B:Nat}{w:World}{b:Nat}{x:Hp}(h:SOq C B w b x)(s:Snd x)(hp:x.phase=2)(a:World)(ha:a.heap.size≤B)(hx:Ext a w):
  Calls Tryz.prog 329 #[.agg #[.pointer (some ⟨b,0,none⟩)]] w fun e w'=>e=.returned (nowV (unit2 x).phase b)∧Hid (SOq C B w' b (unit2 x))∧Ext a w':=by
 obtain⟨ar,kr,a4,n4,k4,a8,m8,k8,br,cB,cO,bn,pb,pa,pk,kn,hd,vf,F,vk,K,role,h,i,hk⟩:=h;have hh:=s.r1.sub;have n8:=s.ok.n8;have lk:2*(unit2 x).room≤(kn:Int)∧(default:ProtD).z bn=none:=by rw[uroom2];exact hk
 cases hg:x.gray with
 | nil=>
  refine(mark_look h s hp hg a ha hx).mono ?_;rintro e w' ⟨rfl,h2,x2⟩;exact⟨rfl,⟨_,_,_,_,_,_,_,_,_,_,_,_,_,_,_,_,_,_,_,_,_,_,unhide h2,inv2 i hp n8,lk⟩,x2⟩
 | cons g G=>
  obtain⟨g0,g1⟩:=s.r5.2.2 g (by rw[hg];simp);obtain⟨j,rfl⟩:∃j:Nat,g=(j:Int):=⟨g.toNat,by omega⟩;by_cases hs:x.sub<((x.c j).prs.length:Int)
  ·refine(mark_pair h s hp j G hg (by omega) x.sub.toNat (by omega) (by omega) a ha hx).mono ?_;rintro e w' ⟨rfl,h2,x2⟩;exact⟨rfl,⟨_,_,_,_,_,_,_,_,_,_,_,_,_,_,_,_,_,_,_,_,_,_,unhide h2,inv2 i hp n8,lk⟩,x2⟩
  ·refine(mark_black h n8 hp j G hg (by omega) hs a ha hx).mono ?_;rintro e w' ⟨rfl,h2,x2⟩;exact⟨rfl,⟨_,_,_,_,_,_,_,_,_,_,_,_,_,_,_,_,_,_,_,_,_,_,unhide h2,inv2 i hp n8,lk⟩,x2⟩
theorem unit3_any[Inhabited ProtD]{C B:Nat}{w:World}{b:Nat}{x:Hp}(h:SOq C B w b x)(hC:C≤1000000000)(s:Snd x)(hp:x.phase=3)(a:World)(ha:a.heap.size≤B)(hx:Ext a w):
  Calls Tryz.prog 331 #[.agg #[.pointer (some ⟨b,0,none⟩)]] w fun e w'=>e=.returned (nowV (unit3 x).phase b)∧Hid (SOq C B w' b (unit3 x))∧Ext a w':=by
 obtain⟨ar,kr,a4,n4,k4,a8,m8,k8,br,cB,cO,bn,pb,pa,pk,kn,hd,vf,F,vk,K,role,h,iv,hk⟩:=h;have hh:=s.r1.hand;have n8:=s.ok.n8;by_cases he:x.hand=x.cells.length
 ·have e3:unit3 x=toPh x 4 0:=by unfold unit3;rw[if_pos he]
  refine(sweep_end h hp he a ha hx).mono ?_;rintro e w' ⟨rfl,h2,x2⟩;exact⟨rfl,⟨_,_,_,_,_,_,_,_,_,_,_,_,_,_,_,_,_,_,_,_,_,_,unhide h2,by rw[e3];exact inv3_end iv hp he,by rw[uroom3];exact hk⟩,x2⟩
 ·obtain⟨i,hi⟩:∃i:Nat,x.hand=(i:Int):=⟨x.hand.toNat,by omega⟩;have hin:i<x.cells.length:=by omega
  have ei:x.hand.toNat=i:=by omega
  cases q1:((x.c i).st == 1)
  ·have qn:(x.c i).st≠1:=by simpa using q1
   have e3:=unit3_free s i hi hin qn;have hv:=inv3_step (z:=unit3 x) iv hp (by rw[e3];exact hp) i hi hin (by rw[e3]) (by rw[e3]) (fun q _=>by rw[e3];rfl) iv.ho (.inl ⟨rfl,by rw[e3];exact id⟩);rw[if_neg (by rw[e3];exact qn),List.append_nil] at hv;refine(sweep_free h s hp i hi hin q1 a ha hx).mono ?_;rintro e w' ⟨rfl,h2,x2⟩;exact⟨rfl,⟨_,_,_,_,_,_,_,_,_,_,_,_,_,_,_,_,_,_,_,_,_,_,unhide h2,hv,by rw[uroom3];exact hk⟩,x2⟩
  ·have q1':(x.c i).st=1:=by simpa using q1
   cases q0:((x.c i).color == 0)
   ·have e3:unit3 x={ x with cells:=x.cells.set i (whiteC (x.c i)),hand:=(i:Int)+1 }:=by
     unfold unit3;rw[if_neg he,ei,if_neg (by simp [whB,q0]),hi]
    have cs:∀q,(unit3 x).c q=if q=i then whiteC (x.c i) else x.c q:=fun q=>by
     rw[e3];exact Hp.c_set x i (whiteC (x.c i)) hin q
    have hv:=inv3_step (z:=unit3 x) iv hp (by rw[e3];exact hp) i hi hin (by rw[e3]) (by rw[e3];simp) (fun q hq=>by rw[cs,if_neg hq]) iv.ho (.inl ⟨rfl,by rw[cs,if_pos rfl];exact id⟩);rw[if_pos (by rw[cs,if_pos rfl];exact q1')] at hv
    have hK:K.length≤8000:=by
     have k3:=iv.k3 hp;have:=nd_len x.cells.length K (k3.1.imp (fun h=>Nat.ne_of_lt h)) (fun q hq=>by have:=(k3.2.1 q hq).1;omega);omega
    refine(sweep_keep h n8 hp i hi hin q1 q0 hK a ha hx).mono ?_;rintro e w' ⟨rfl,h2,x2⟩;obtain⟨vk',role',h2⟩:=unhide h2;exact⟨rfl,⟨_,_,_,_,_,_,_,_,_,_,_,_,_,_,_,_,_,_,_,_,_,_,h2,hv,by rw[uroom3];exact hk⟩,x2⟩
   ·have wh:whB (x.c i)=true:=by simp [whB,q1,q0]
    have e3:unit3 x={ x with used:=x.used-(1+(x.c i).prs.length),cells:=x.cells.set i Cl0,hand:=(i:Int)+1 }:=by
     unfold unit3;rw[if_neg he,ei,if_pos wh,hi]
    have cs:∀q,(unit3 x).c q=if q=i then Cl0 else x.c q:=fun q=>by
     rw[e3];exact Hp.c_set x i Cl0 hin q
    refine(sweep_white h s hp i hi hin wh iv.ho (by have:=iv.le;omega) a ha hx).mono ?_;rintro e w' ⟨rfl,h2,x2⟩;obtain⟨pa',pk',vf',F',role',h2,ho2,pm⟩:=unhide h2;have hv:=inv3_step (z:=unit3 x) iv hp (by rw[e3];exact hp) i hi hin (by rw[e3]) (by rw[e3];simp) (fun q hq=>by rw[cs,if_neg hq]) ho2 (.inr pm);rw[if_neg (by rw[cs,if_pos rfl];simp [Cl0]),List.append_nil] at hv;exact⟨rfl,⟨_,_,_,_,_,_,_,_,_,_,_,_,_,_,_,_,_,_,_,_,_,_,h2,hv,by rw[uroom3];exact hk⟩,x2⟩
theorem unit4_any[Inhabited ProtD]{C B:Nat}{w:World}{b:Nat}{x:Hp}(h:SOq C B w b x)(hC:C≤1000000000)(s:Snd x)(hp:x.phase=4)(a:World)(ha:a.heap.size≤B)(hx:Ext a w):
  Calls Tryz.prog 333 #[.agg #[.pointer (some ⟨b,0,none⟩)]] w fun e w'=>e=.returned (nowV (unit4 x).phase b)∧Hid (SOq C B w' b (unit4 x))∧Ext a w':=by
 obtain⟨ar,kr,a4,n4,k4,a8,m8,k8,br,cB,cO,bn,pb,pa,pk,kn,hd,vf,F,vk,K,role,h,iv,hk⟩:=h;have lk:2*(unit4 x).room≤(kn:Int)∧(default:ProtD).z bn=none:=by rw[uroom4];exact hk
 refine(move_any h iv hC s hp a ha hx).mono ?_;rintro e w' ⟨rfl,h2,x2⟩;obtain⟨pb',pa',pk',vf',F',vk',K',role',h2,i2⟩:=unhide h2;exact⟨rfl,⟨_,_,_,_,_,_,_,_,_,_,_,_,_,_,_,_,_,_,_,_,_,_,h2,i2,lk⟩,x2⟩
theorem unit5_any[Inhabited ProtD]{C B:Nat}{w:World}{b:Nat}{x:Hp}(h:SOq C B w b x)(s:Snd x)(hp:x.phase=5)(a:World)(ha:a.heap.size≤B)(hx:Ext a w):
  Calls Tryz.prog 335 #[.agg #[.pointer (some ⟨b,0,none⟩)]] w fun e w'=>e=.returned (nowV (unit5 x).phase b)∧Hid (SOq C B w' b (unit5 x))∧Ext a w':=by
 obtain⟨ar,kr,a4,n4,k4,a8,m8,k8,br,cB,cO,bn,pb,pa,pk,kn,hd,vf,F,vk,K,role,h,i,hk⟩:=h;have hh:=s.r1.hand;have hs:=s.r1.sub;have n8:=s.ok.n8;have lk:2*(unit5 x).room≤(kn:Int)∧(default:ProtD).z bn=none:=by rw[uroom5];exact hk
 by_cases he:x.hand=x.cells.length
 ·refine(mend_end h hp he a ha hx).mono ?_;rintro e w' ⟨rfl,h2,x2⟩;exact⟨rfl,⟨_,_,_,_,_,_,_,_,_,_,_,_,_,_,_,_,_,_,_,_,_,_,unhide h2,inv5 i hp n8,lk⟩,x2⟩
 ·have hin:x.hand.toNat<x.cells.length:=by omega
  by_cases hkl:x.sub.toNat<(x.c x.hand.toNat).prs.length
  ·have pf:=((s.r4.2 x.hand.toNat hin).2 x.sub.toNat hkl).2 (fun d=>by have:=d.1;omega);refine(mend_pair h hp x.hand.toNat (by omega) hin x.sub.toNat (by omega) hkl s.r2 pf.1.1 pf.2.1 a ha hx).mono ?_;rintro e w' ⟨rfl,h2,x2⟩;exact⟨rfl,⟨_,_,_,_,_,_,_,_,_,_,_,_,_,_,_,_,_,_,_,_,_,_,unhide h2,inv5 i hp n8,lk⟩,x2⟩
  ·refine(mend_next h n8 hp x.hand.toNat (by omega) hin x.sub.toNat (by omega) hkl a ha hx).mono ?_;rintro e w' ⟨rfl,h2,x2⟩;exact⟨rfl,⟨_,_,_,_,_,_,_,_,_,_,_,_,_,_,_,_,_,_,_,_,_,_,unhide h2,inv5 i hp n8,lk⟩,x2⟩
theorem unit6_any[Inhabited ProtD]{C B:Nat}{w:World}{b:Nat}{x:Hp}(h:SOq C B w b x)(hC:C≤1000000000)(s:Snd x)(hp:x.phase=6)(a:World)(ha:a.heap.size≤B)(hx:Ext a w):
  Calls Tryz.prog 336 #[.agg #[.pointer (some ⟨b,0,none⟩)]] w fun e w'=>e=.returned (nowV (unit6 x).phase b)∧Hid (SOq C B w' b (unit6 x))∧Ext a w':=by
 obtain⟨ar,kr,a4,n4,k4,a8,m8,k8,br,cB,cO,bn,pb,pa,pk,kn,hd,vf,F,vk,K,role,h,iv,hk⟩:=h;have hh:=s.r1.hand;have n8:=s.ok.n8;by_cases he:x.hand=0
 ·refine(shut_end h hp he s.r1.rounds a ha hx).mono ?_;rintro e w' ⟨rfl,h2,x2⟩;have e6:(unit6 x).phase=0∧(unit6 x).cells=x.cells:=by unfold unit6;rw[if_pos he];exact⟨rfl,rfl⟩
  exact⟨rfl,⟨_,_,_,_,_,_,_,_,_,_,_,_,_,_,_,_,_,_,_,_,_,_,unhide h2,inv6_end iv hp e6.1 e6.2,by rw[uroom6];exact hk⟩,x2⟩
 ·obtain⟨i,hi⟩:∃i:Nat,x.hand=(i:Int)+1:=⟨(x.hand-1).toNat,by omega⟩;have hin:i<x.cells.length:=by omega
  have e6:unit6 x=dropH (shutH x i) i:=by unfold unit6;rw[if_neg (by omega),show(x.hand-1).toNat=i by omega]
  have shl:(shutH x i).cells.length=x.cells.length:=by unfold shutH;split <;> simp
  have shc:∀q,(shutH x i).c q=if q=i∧(x.c i).st=2 then Cl0 else x.c q:=fun q=>by
   by_cases e2:(x.c i).st=2
   ·have:(shutH x i).c q=({ x with cells:=x.cells.set i Cl0 }:Hp).c q:=by unfold shutH;rw[if_pos e2];rfl
    rw[this,Hp.c_set x i Cl0 hin q];by_cases e:q=i
    ·rw[if_pos e,if_pos ⟨e,e2⟩]
    ·rw[if_neg e,if_neg (fun h=>e h.1)]
   ·have:(shutH x i).c q=x.c q:=by unfold shutH;rw[if_neg e2];rfl
    rw[this,if_neg (fun h=>e2 h.2)]
  have d1:(unit6 x).phase=6∧(unit6 x).hand=(i:Int)∧(unit6 x).cells.length≤x.cells.length∧∀q,q<(unit6 x).cells.length→(unit6 x).c q=(shutH x i).c q:=by
   rw[e6];unfold dropH
   split
   ·refine⟨hp,rfl,by simp [shl];omega,fun q hq=>?_⟩;simp at hq;simp only [Hp.c,List.getD_eq_getElem?_getD,List.getElem?_take];rw[if_pos (by omega)]
   ·exact⟨hp,rfl,by rw[shl];omega,fun q _=>rfl⟩
  refine(shut_cell h n8 hp i hi hin (by have:=s.r1.cells;omega) iv.ho (by have:=iv.le;omega) a ha hx).mono ?_;rintro e w' ⟨rfl,h2,x2⟩;obtain⟨pa',pk',vf',F',role',h2,ho2,pm⟩:=unhide h2
  have hv:=inv6_cell (z:=unit6 x) iv hp d1.1 i hi d1.2.1 d1.2.2.1 (fun q hq hne=>by rw[d1.2.2.2 q hq,shc,if_neg (fun h=>hne h.1)]) ho2 (by
   rcases pm with⟨_,p⟩ | ⟨n2,p⟩
   ·exact .inr p
   ·exact .inl ⟨p,fun hq=>by rw[d1.2.2.2 i hq,shc,if_neg (fun h=>n2 h.2)];exact id⟩)
  exact⟨rfl,⟨_,_,_,_,_,_,_,_,_,_,_,_,_,_,_,_,_,_,_,_,_,_,h2,hv,by rw[uroom6];exact hk⟩,x2⟩
theorem SInv.alike{C:Nat}{x:Hp}{F:List Int}{K:List Nat}(h:SInv C x F K){z:Hp}(hs:SameSt x z)(hp:z.phase=x.phase)(hh:z.hand=x.hand):SInv C z F K where
 ho:=h.ho
 al:=fun i hi h0=>h.al i (by rw[←hs.1];exact hi) (by rw[←hs.2];exact h0)
 nn:=h.nn
 le:=by
  have e:remU z=remU x:=by unfold remU;rw[hp,hh,hs.1]
  rw[e];exact h.le
 k3:=fun e=>by
  have k:=h.k3 (by rw[←hp];exact e);rw[hh];exact⟨k.1,fun i hi=>⟨(k.2.1 i hi).1,by rw[hs.2];exact(k.2.1 i hi).2⟩,fun i hi h1 hn j hj h0=>k.2.2 i hi (by rw[←hs.2];exact h1) hn j (by rw[←hs.1];exact hj) (by rw[←hs.2];exact h0)⟩
 k4:=fun e=>by
  have k:=h.k4 (by rw[←hp];exact e);exact⟨k.1,fun i hi=>⟨by rw[hs.1];exact(k.2.1 i hi).1,by rw[hs.2];exact(k.2.1 i hi).2⟩,fun i hi h1 hn j hj h0=>k.2.2 i (by rw[←hs.1];exact hi) (by rw[←hs.2];exact h1) hn j (by rw[←hs.1];exact hj) (by rw[←hs.2];exact h0)⟩
 k0:=fun a b=>h.k0 (by rw[←hp];exact a) (by rw[←hp];exact b)
theorem SAt.far{z z2:Nat→Option Obj}{B:Nat}{w w':World}{b:Nat}{x:Hp}{ar:Option Addr}{kr:Nat}{v4 v8:Value}{br bn:Nat}{cB cO:Nat→Nat}{pb:Nat→Nat}{pa:Nat→Option Addr}{pk:Nat→Nat}{kn hd:Nat}{vf:Value}{F:List Int}{vk:Value}{K:List Nat}{role role':Nat→Nat}(h:@SAt ⟨⟨z⟩⟩ B w b x ar kr v4 v8 br cB cO bn pb pa pk kn hd vf F vk K role)(hs:w.heap.size≤w'.heap.size)(far:∀q,q<w.heap.size→(role q≠1∨q=bn)→w'.heap[q]?=w.heap[q]?)(hr:∀q,q<w.heap.size→(role q≠1∨q=bn)→role' q=role q)(hp:∀q o,z2 q=some o→role' q=1∧w'.heap[q]?=some o):@SAt ⟨⟨z2⟩⟩ B w' b x ar kr v4 v8 br cB cO bn pb pa pk kn hd vf F vk K role':=by
 obtain⟨sb,rs,sp,_⟩:=h
 letI:Inhabited ProtD:=⟨⟨z2⟩⟩
 refine⟨sb.same hs (far b sb.nb.1 (.inl (by rw[sp.b];omega))) (far bn sb.lo.2.2.1 (.inr rfl)) (fun q hq=>far q (sb.fr.own.lt q hq).2 (.inl (by rw[sp.f q hq];omega))) (fun q hq=>far q (sb.kp.lt q hq).2 (.inl (by rw[sp.k q hq];omega))),rs.same hs (fun hl=>far br (rs.nr hl).1.1 (.inl (by rw[sp.r hl];omega))) (fun q hq=>far (cB q) (rs.nc q hq).1.1 (.inl (by rw[sp.c q hq];omega))) (fun q hq hl=>far (pb q) (rs.pl q hq hl).2.1.1 (.inl (by rw[sp.p q hq hl];omega))),⟨?_,?_,fun hl=>?_,fun q hq=>?_,fun q hq=>?_,fun q hq=>?_,fun q hq hl=>?_⟩,hp⟩
 ·rw[hr b sb.nb.1 (.inl (by rw[sp.b];omega))];exact sp.b
 ·rw[hr bn sb.lo.2.2.1 (.inr rfl)];exact sp.n
 ·rw[hr br (rs.nr hl).1.1 (.inl (by rw[sp.r hl];omega))];exact sp.r hl
 ·rw[hr (cB q) (rs.nc q hq).1.1 (.inl (by rw[sp.c q hq];omega))];exact sp.c q hq
 ·rw[hr q (sb.fr.own.lt q hq).2 (.inl (by rw[sp.f q hq];omega))];exact sp.f q hq
 ·rw[hr q (sb.kp.lt q hq).2 (.inl (by rw[sp.k q hq];omega))];exact sp.k q hq
 ·rw[hr (pb q) (rs.pl q hq hl).2.1.1 (.inl (by rw[sp.p q hq hl];omega))];exact sp.p q hq hl
theorem SOq.enter{p:Inhabited ProtD}{C B:Nat}{w w0:World}{b:Nat}{x:Hp}(h:@SOq p C B w b x)(e:Ext w w0):∃p1,Own p w.heap.size w0.heap.size w0 p1∧@SOq p1 C B w0 b x:=by
 obtain⟨ar,kr,a4,n4,k4,a8,m8,k8,br,cB,cO,bn,pb,pa,pk,kn,hd,vf,F,vk,K,role,h,i,k⟩:=h;have h0:=h;obtain⟨sb,_,_,pr⟩:=h0;obtain⟨p1,hp⟩:=Own.make p w.heap.size w0.heap.size w0 (fun q o hq=>obj_lt (pr q o hq).2) (Nat.le_refl _);refine⟨p1,hp,ar,kr,a4,n4,k4,a8,m8,k8,br,cB,cO,bn,pb,pa,pk,kn,hd,vf,F,vk,K,fun q=>if w.heap.size≤q then 1 else role q,SAt.far (z:=(@default ProtD p).z) (z2:=(@default ProtD p1).z) h e.size (fun q hq _=>e.block q hq) (fun q hq _=>if_neg (by omega)) (fun q o hq=>?_),i,k.1,by rw[hp.z,if_neg (fun u=>by have:=sb.lo.2.2.1;omega)];exact k.2⟩;rw[hp.z] at hq
 split at hq
 ·rename_i c;exact⟨if_pos c.1,hq⟩
 ·obtain⟨h1,h2⟩:=pr q o hq;have hl:=obj_lt h2;exact⟨by show(if w.heap.size≤q then 1 else role q)=1;rw[if_neg (by omega)];exact h1,(e.block q hl).trans h2⟩
theorem SOq.own{p p1:Inhabited ProtD}{lo hi:Nat}{c:World}(o:Own p lo hi c p1){C B:Nat}{w:World}{b:Nat}{x:Hp}(h:@SOq p1 C B w b x):∀q,lo≤q→q<hi→w.heap[q]?=c.heap[q]?:=fun q h1 h2=>by
 obtain⟨ar,kr,a4,n4,k4,a8,m8,k8,br,cB,cO,bn,pb,pa,pk,kn,hd,vf,F,vk,K,role,h,i,k⟩:=h;obtain⟨_,_,_,pr⟩:=h;obtain⟨ob,hb⟩:=obj_some (w:=c) (q:=q) (by have:=o.h;omega);have:=(pr q ob (by rw[o.z q,if_pos ⟨h1,h2⟩];exact hb)).2;rw[this,hb]
theorem SOq.obj[Inhabited ProtD]{C B:Nat}{w:World}{b:Nat}{x:Hp}(h:SOq C B w b x){q:Nat}{o:Obj}(hz:(default:ProtD).z q=some o):w.heap[q]?=some o:=by
 obtain⟨ar,kr,a4,n4,k4,a8,m8,k8,br,cB,cO,bn,pb,pa,pk,kn,hd,vf,F,vk,K,role,h,i,k⟩:=h;exact(h.pr q o hz).2
structure SReg[Inhabited ProtD](C B:Nat)(w:World)(b:Nat)(x:Hp)(br kr:Nat):Prop where
 c3:w.cell? ⟨b,3,none⟩=some (.slice (some ⟨br,0,none⟩) 16 kr)
 r:∀i,i<16→WdAt w br (i*3) (x.r i)
 f:∀j,w.frozen? ⟨br,j,none⟩=false
 lo:B≤br∧br<w.heap.size
 set:∀(W:World) (i:Nat) (y:Wd),Ext w W→i<16→SOq C B (wordO W br (i*3) y) b (regTo x i y)
theorem SOq.regs[Inhabited ProtD]{C B:Nat}{w:World}{b:Nat}{x:Hp}(h:SOq C B w b x)(s:Snd x):∃br kr,SReg C B w b x br kr:=by
 obtain⟨ar,kr,a4,n4,k4,a8,m8,k8,br,cB,cO,bn,pb,pa,pk,kn,hd,vf,F,vk,K,role,h,v,k⟩:=h;have r16:=s.r1.regs;have h0:0<x.regs.length:=by omega
 refine⟨br,kr,?_,fun i hi=>?_,(h.rw.nr h0).1.2,⟨(h.rw.nr h0).2,(h.rw.nr h0).1.1⟩,fun W i y e hi=>?_⟩
 ·have:=h.sb.bx.2.2.2.1;rw[h.sb.ha h0,r16] at this;exact this
 ·have:=h.rw.r i (by omega);rw[Hp.r_eq] at this;exact this
 ·have g1:=h.ext e;exact⟨ar,kr,a4,n4,k4,a8,m8,k8,br,cB,cO,bn,pb,pa,pk,kn,hd,vf,F,vk,K,role,g1.setr i (by omega) y (wordO_only _ _ _ _) (wordO_nf (g1.rw.nr h0).1 _ _) (wordO_at _ _ _ _ _ (g1.rw.r i (by omega))) (fun m hm=>wordO_other _ _ _ _ m hm),v.alike (SameSt.cells rfl) rfl rfl,k⟩
theorem SReg.ext[Inhabited ProtD]{C B:Nat}{w w':World}{b:Nat}{x:Hp}{br kr:Nat}(h:SReg C B w b x br kr)(e:Ext w w'):SReg C B w' b x br kr:=
 ⟨e.keep h.c3,fun i hi=>(h.r i hi).ext e,fun j=>((bcell e).2 br j h.lo.2).trans (h.f j),⟨h.lo.1,Nat.lt_of_lt_of_le h.lo.2 e.size⟩,fun W i y e2 hi=>h.set W i y (e.trans e2) hi⟩
def deedO(b:Nat)(op:Int)(a p c:Nat)(n:Int)(rv:Value):Obj:=.cells #[.pointer (some ⟨b,0,none⟩),iv op,iv a,iv p,iv c,iv n,rv] 293
structure Deed(w:World)(bd b:Nat)(op:Int)(a p c:Nat)(n:Int)(rv:Value):Prop where
 d0:w.cell? ⟨bd,0,none⟩=some (.pointer (some ⟨b,0,none⟩))
 d1:w.cell? ⟨bd,1,none⟩=some (iv op)
 d2:w.cell? ⟨bd,2,none⟩=some (iv a)
 d3:w.cell? ⟨bd,3,none⟩=some (iv p)
 d4:w.cell? ⟨bd,4,none⟩=some (iv c)
 d5:w.cell? ⟨bd,5,none⟩=some (iv n)
 d6:w.cell? ⟨bd,6,none⟩=some rv
theorem Deed.of{w:World}{bd b:Nat}{op:Int}{a p c:Nat}{n:Int}{rv:Value}(h:w.heap[bd]?=some (deedO b op a p c n rv)):Deed w bd b op a p c n rv:=by
 have k:=fun j=>cell_of_row w bd j _ _ (0,0) h
 exact⟨k 0,k 1,k 2,k 3,k 4,k 5,k 6⟩
theorem Deed.ext{w w':World}{bd b:Nat}{op:Int}{a p c:Nat}{n:Int}{rv:Value}(h:Deed w bd b op a p c n rv)(e:Ext w w'):Deed w' bd b op a p c n rv:=
 ⟨e.keep h.d0,e.keep h.d1,e.keep h.d2,e.keep h.d3,e.keep h.d4,e.keep h.d5,e.keep h.d6⟩
def errV(cd:Int):Value:=if cd=0 then .nilIface else .iface 283 (.agg #[iv cd])
abbrev WayPost[Inhabited ProtD](C B b:Nat)(x:Hp)(a p c:Nat)(n:Int)(k:Nat)(v:World)(e:Ending)(w':World):Prop:=∃(y:Hp) (cd nm:Int),Hid (e=.returned (.tuple #[iv nm,errV cd]))∧Hid (DoR x a p c n y cd nm k)∧Hid (SOq (C+64000) B w' b y)∧Ext v w'
theorem dA_any[Inhabited ProtD]{C B:Nat}{w:World}{b bd:Nat}{x:Hp}{br kr:Nat}{op:Int}{a p c:Nat}{n:Int}{rv:Value}(h:SReg C B w b x br kr)(d:Deed w bd b op a p c n rv)(ha:a<16):
  Calls Tryz.prog 320 #[.pointer (some ⟨bd,0,none⟩)] w fun e w'=>e=.returned (.pointer (some ⟨br,a*3,none⟩))∧Ext w w':=by
 have c3:=h.c3;obtain⟨d0,d1,d2,d3,d4,d5,d6⟩:=d;have i0:(0:Int)≤(a:Int):=by omega
 have i1:(a:Int)<16:=by omega
 clear h;go_enter Tryz.func320,Tryz.ntmps320;go_wp2_with fail;go_quiet (fail);go_wp2_with fail;go_ret;exact⟨rfl,Ext.drewN (Ext.refl _) _⟩
theorem dB_any[Inhabited ProtD]{C B:Nat}{w:World}{b bd:Nat}{x:Hp}{br kr:Nat}{op:Int}{a p c:Nat}{n:Int}{rv:Value}(h:SReg C B w b x br kr)(d:Deed w bd b op a p c n rv)(ha:p<16):
  Calls Tryz.prog 322 #[.pointer (some ⟨bd,0,none⟩)] w fun e w'=>e=.returned (.pointer (some ⟨br,p*3,none⟩))∧Ext w w':=by
 have c3:=h.c3;obtain⟨d0,d1,d2,d3,d4,d5,d6⟩:=d;have i0:(0:Int)≤(p:Int):=by omega
 have i1:(p:Int)<16:=by omega
 clear h;go_enter Tryz.func322,Tryz.ntmps322;go_wp2_with fail;go_quiet (fail);go_wp2_with fail;go_ret;exact⟨rfl,Ext.drewN (Ext.refl _) _⟩
structure SCel[Inhabited ProtD](C B:Nat)(w:World)(b:Nat)(x:Hp)(i bn kn cb co:Nat)(ap:Option Addr)(kp:Nat):Prop where
 n13:w.cell? ⟨b,13,none⟩=some (.slice (some ⟨bn,0,none⟩) x.cells.length kn)
 m0:w.cell? ⟨bn,i*2,none⟩=some (iv i)
 m1:w.cell? ⟨bn,i*2+1,none⟩=some (.pointer (some ⟨cb,co,none⟩))
 s:S7 w cb co (x.c i)
 p7:w.cell? ⟨cb,co+7,none⟩=some (.slice ap (x.c i).prs.length kp)
 f:∀j,w.frozen? ⟨cb,j,none⟩=false
 lo:B≤cb∧cb<w.heap.size
 set2:∀(W:World) (u:Int),Ext w W→SOq C B (W.setCell ⟨cb,co+2,none⟩ (iv u)) b (setcH x i (weakC (x.c i) u))
 set3:∀(W:World) (u:Int),Ext w W→SOq C B (W.setCell ⟨cb,co+3,none⟩ (iv u)) b (setcH x i (lastC (x.c i) u))
theorem SOq.cel[Inhabited ProtD]{C B:Nat}{w:World}{b:Nat}{x:Hp}(h:SOq C B w b x)(i:Nat)(hi:i<x.cells.length):∃bn kn cb co ap kp,SCel C B w b x i bn kn cb co ap kp:=by
 obtain⟨ar,kr,a4,n4,k4,a8,m8,k8,br,cB,cO,bn,pb,pa,pk,kn,hd,vf,F,vk,K,role,h,v,k⟩:=h;have sm:∀c:Cl,c.st=(x.c i).st→SameSt x (setcH x i c):=fun c hc=>SameSt.set x i c hc rfl
 refine⟨bn,kn,cB i,cO i,pa i,pk i,h.sb.n13,(h.sb.nd i hi).1,(h.sb.nd i hi).2,h.rw.s i hi,h.rw.p7 i hi,(h.rw.nc i hi).1.2,⟨(h.rw.nc i hi).2,(h.rw.nc i hi).1.1⟩,fun W u e=>?_,fun W u e=>?_⟩
 ·have g1:=h.ext e;obtain⟨a0,a1,a2,a3,a4,a5,a6⟩:=g1.rw.s i hi;refine⟨_,_,_,_,_,_,_,_,_,_,_,_,_,_,_,_,_,_,_,_,_,_,g1.setc hi rfl (Only.setCell (S:=fun q=>q=cB i) (Only.refl _ W) (p:=⟨cB i,cO i+2,none⟩) rfl _) ⟨?_,?_,World.cell?_setCell_same _ _ _ a2,?_,?_,?_,?_⟩ (fun j hj=>cell_other _ (.inr (by omega))) ((g1.rw.nc i hi).1.set _ _),v.alike (sm _ rfl) rfl rfl,k⟩
  ·rw[cell_other _ (.inr (by omega))];exact a0
  ·rw[cell_other _ (.inr (by omega))];exact a1
  ·rw[cell_other _ (.inr (by omega))];exact a3
  ·rw[cell_other _ (.inr (by omega))];exact a4
  ·rw[cell_other _ (.inr (by omega))];exact a5
  ·rw[cell_other _ (.inr (by omega))];exact a6
 ·have g1:=h.ext e;obtain⟨a0,a1,a2,a3,a4,a5,a6⟩:=g1.rw.s i hi;refine⟨_,_,_,_,_,_,_,_,_,_,_,_,_,_,_,_,_,_,_,_,_,_,g1.setc hi rfl (Only.setCell (S:=fun q=>q=cB i) (Only.refl _ W) (p:=⟨cB i,cO i+3,none⟩) rfl _) ⟨?_,?_,?_,World.cell?_setCell_same _ _ _ a3,?_,?_,?_⟩ (fun j hj=>cell_other _ (.inr (by omega))) ((g1.rw.nc i hi).1.set _ _),v.alike (sm _ rfl) rfl rfl,k⟩
  ·rw[cell_other _ (.inr (by omega))];exact a0
  ·rw[cell_other _ (.inr (by omega))];exact a1
  ·rw[cell_other _ (.inr (by omega))];exact a2
  ·rw[cell_other _ (.inr (by omega))];exact a4
  ·rw[cell_other _ (.inr (by omega))];exact a5
  ·rw[cell_other _ (.inr (by omega))];exact a6
theorem SCel.ext[Inhabited ProtD]{C B:Nat}{w w':World}{b:Nat}{x:Hp}{i bn kn cb co:Nat}{ap:Option Addr}{kp:Nat}(h:SCel C B w b x i bn kn cb co ap kp)(e:Ext w w'):SCel C B w' b x i bn kn cb co ap kp:=
 ⟨e.keep h.n13,e.keep h.m0,e.keep h.m1,⟨e.keep h.s.1,e.keep h.s.2.1,e.keep h.s.2.2.1,e.keep h.s.2.2.2.1,e.keep h.s.2.2.2.2.1,e.keep h.s.2.2.2.2.2.1,e.keep h.s.2.2.2.2.2.2⟩,e.keep h.p7,fun j=>((bcell e).2 cb j h.lo.2).trans (h.f j),⟨h.lo.1,Nat.lt_of_lt_of_le h.lo.2 e.size⟩,fun W u e2=>h.set2 W u (e.trans e2),fun W u e2=>h.set3 W u (e.trans e2)⟩
theorem cellOf_no{C B:Nat}[Inhabited ProtD]{w:World}{b bd:Nat}{x:Hp}{br kr f:Nat}{op:Int}{a p c:Nat}{n:Int}{rv:Value}(h:SReg C B w b x br kr)(d:Deed w bd b op a p c n rv)(hf:f<16)(hk:(x.r f).k≠2):
  Calls Tryz.prog 325 #[.pointer (some ⟨bd,0,none⟩),.pointer (some ⟨br,f*3,none⟩)] w fun e w'=>e=.returned (.tuple #[.pointer none,.iface 283 (.agg #[iv 2])])∧Ext w w':=by
 obtain⟨r0,r1,r2⟩:=h.r f hf;obtain⟨d0,d1,d2,d3,d4,d5,d6⟩:=d;have QF:=hide (fun W=>find_none (x.r f) b W (by simpa using hk));have hb1:br<w.heap.size:=cell_lt r0;have hd1:bd<w.heap.size:=cell_lt d0;clear h hk;go_enter Tryz.func325,Tryz.ntmps325;go_wp2_with fail;go_region_with (go_at_call 199;refine(unhide QF _).mono ?_;rintro e w5 ⟨rfl,x5⟩;have X5:=hide (Ext.trans (Ext.refl w).drew x5);clear x5)
 all_goals
  go_wp2_with fail;go_ret2;exact⟨rfl,unhide X5⟩
theorem cellOf_yes{C B:Nat}[Inhabited ProtD]{w:World}{b bd:Nat}{x:Hp}{br kr f i bn kn cb co:Nat}{ap:Option Addr}{kp:Nat}{op:Int}{a p c:Nat}{n:Int}{rv:Value}(h:SReg C B w b x br kr)(hc:SCel C B w b x i bn kn cb co ap kp)(d:Deed w bd b op a p c n rv)(hf:f<16)(hk:(x.r f).k=2)(ha:(x.r f).a=(i:Int))(hi:i<x.cells.length):
  Calls Tryz.prog 325 #[.pointer (some ⟨bd,0,none⟩),.pointer (some ⟨br,f*3,none⟩)] w fun e w'=>e=.returned (.tuple #[ndp bn i,.nilIface])∧Ext w w':=by
 obtain⟨r0,r1,r2⟩:=h.r f hf;obtain⟨d0,d1,d2,d3,d4,d5,d6⟩:=d;rw[ha] at r2;have n13:=hc.n13;have QF:=hide (fun(W:World) (xW:Ext w W)=>find_some ⟨(x.r f).k,(x.r f).n,(i:Int)⟩ b x.cells.length bn 0 kn i W (by simpa using hk) (xW.keep n13) hi);simp only [Nat.zero_add] at QF;have hb1:br<w.heap.size:=cell_lt r0;have hd1:bd<w.heap.size:=cell_lt d0;clear h hk ha hc;go_enter Tryz.func325,Tryz.ntmps325;go_wp2_with fail;go_region_with (go_at_call 199;refine(unhide QF _ (Ext.refl w).drew).mono ?_;rintro e w5 ⟨rfl,x5⟩;have X5:=hide (Ext.trans (Ext.refl w).drew x5);clear x5)
 all_goals
  go_wp2_with fail;go_ret2;exact⟨rfl,unhide X5⟩
theorem snoc_c(x:Hp)(c:Cl)(q:Nat):({ x with cells:=x.cells++[c] }:Hp).c q=if q=x.cells.length then c else x.c q:=by
 unfold Hp.c;by_cases e:q=x.cells.length
 ·subst e;simp
 ·rw[if_neg e];simp only [List.getD_eq_getElem?_getD];rcases Nat.lt_or_ge q x.cells.length with l | l
  ·rw[List.getElem?_append_left l]
  ·rw[List.getElem?_append_right l,List.getElem?_eq_none (by simp;omega),List.getElem?_eq_none l]
theorem SAt.pushn[Inhabited ProtD]{B:Nat}{w W w':World}{b:Nat}{x:Hp}{ar:Option Addr}{kr:Nat}{v4 v8:Value}{br bn:Nat}{cB cO:Nat→Nat}{pb:Nat→Nat}{pa:Nat→Option Addr}{pk:Nat→Nat}{kn hd:Nat}{vf:Value}{F:List Int}{vk:Value}{K:List Nat}{role:Nat→Nat}(h:SAt B w b x ar kr v4 v8 br cB cO bn pb pa pk kn hd vf F vk K role)(r0:0<x.regs.length)(hzn:(default:ProtD).z bn=none)(e:Ext w W)(qc:Nat)(hq0:w.heap.size≤qc)(s0:S7 w' qc 0 Cl0)(s7:w'.cell? ⟨qc,7,none⟩=some (.slice none 0 0))(nq:Nf1 qc w')
  (o:Only (fun q=>q=bn∨q=b) W w') (n13:w'.cell? ⟨b,13,none⟩=some (.slice (some ⟨bn,0,none⟩) (x.cells.length+1) kn)) (cb:∀j,j≠13→w'.cell? ⟨b,j,none⟩=W.cell? ⟨b,j,none⟩) (m0:w'.cell? ⟨bn,x.cells.length*2,none⟩=some (iv x.cells.length)) (m1:w'.cell? ⟨bn,x.cells.length*2+1,none⟩=some (.pointer (some ⟨qc,0,none⟩))) (mo:∀j,j<x.cells.length*2→w'.cell? ⟨bn,j,none⟩=W.cell? ⟨bn,j,none⟩) (nb:Nf1 b w') (nd:NdB w' bn kn) :
  SAt B w' b { x with cells:=x.cells++[Cl0] } ar kr v4 v8 br (fun q=>if q=x.cells.length then qc else cB q) (fun q=>if q=x.cells.length then 0 else cO q) bn pb (fun q=>if q=x.cells.length then none else pa q) (fun q=>if q=x.cells.length then 0 else pk q) kn hd vf F vk K (fun d=>if w.heap.size≤d then 3 else role d):=by
 have g:=h.ext e;have old:∀q,q<w.heap.size→(if w.heap.size≤q then 3 else role q)=role q:=fun q hq=>if_neg (by omega)
 have far:∀q,q<w.heap.size→role q≠0→q≠bn→w'.heap[q]?=W.heap[q]?:=fun q hq h0 hn=>o.block q (Nat.lt_of_lt_of_le hq e.size) (fun u=>by
  rcases u with u | u
  ·exact hn u
  ·exact h0 (by rw[u];exact h.sp.b))
 have far1:∀q,q<w.heap.size→role q≠0→role q≠1→w'.heap[q]?=W.heap[q]?:=fun q hq h0 h1=>far q hq h0 (fun u=>h1 (by rw[u];exact h.sp.n))
 have hc:=snoc_c x Cl0;have hl:({ x with cells:=x.cells++[Cl0] }:Hp).cells.length=x.cells.length+1:=by simp
 have lt:∀q,q<({ x with cells:=x.cells++[Cl0] }:Hp).cells.length→q=x.cells.length∨(q<x.cells.length∧q≠x.cells.length):=fun q hq=>by rw[hl] at hq;omega
 have fr:w'.heap[br]?=W.heap[br]?:=far1 br (h.rw.nr r0).1.1 (by rw[h.sp.r r0];omega) (by rw[h.sp.r r0];omega);have fc:∀q,q<x.cells.length→w'.heap[cB q]?=W.heap[cB q]?:=fun q hq=>far1 (cB q) (h.rw.nc q hq).1.1 (by rw[h.sp.c q hq];omega) (by rw[h.sp.c q hq];omega)
 have fp:∀q,q<x.cells.length→0<pk q→w'.heap[pb q]?=W.heap[pb q]?:=fun q hq hp=>far1 (pb q) (h.rw.pl q hq hp).2.1.1 (by rw[h.sp.p q hq hp];omega) (by rw[h.sp.p q hq hp];omega)
 refine⟨⟨g.sb.bx.of fun j hj=>cb j (by omega),g.sb.ha,by rw[hl];exact n13,fun i hi=>?_,⟨(cb 14 (by omega)).trans g.sb.fr.hd,nb.2 14,ownsRow_of_block g.sb.fr.own (fun q hq=>far1 q (h.sb.fr.own.lt q hq).2 (by rw[h.sp.f q hq];omega) (by rw[h.sp.f q hq];omega)),g.sb.fr.apart⟩,g.sb.rg.of fun j h1 _=>cb j (by omega),(cb 4017 (by omega)).trans g.sb.k0,ownsRow_of_block g.sb.kp (fun q hq=>far1 q (h.sb.kp.lt q hq).2 (by rw[h.sp.k q hq];omega) (by rw[h.sp.k q hq];omega)),nb,⟨g.sb.lo.1,g.sb.lo.2.1,nd⟩⟩,⟨fun j hj=>?_,fun q hq=>?_,fun q hq=>?_,fun q hq j hj=>?_,fun q hq hlq=>?_,fun hr=>⟨nf1_block (g.rw.nr hr).1 fr o.size,(g.rw.nr hr).2⟩,fun q hq=>?_,fun q hq=>?_,fun q q' hq hq' hqq h1 h2=>?_,fun q q' hq hq' hqq=>?_,fun q hq=>?_⟩,⟨by rw[old b h.sb.nb.1];exact h.sp.b,by rw[old bn h.sb.lo.2.2.1];exact h.sp.n,fun hr=>by rw[old br (h.rw.nr hr).1.1];exact h.sp.r hr,fun q hq=>?_,fun q hq=>by rw[old q (h.sb.fr.own.lt q hq).2];exact h.sp.f q hq,fun q hq=>by rw[old q (h.sb.kp.lt q hq).2];exact h.sp.k q hq,fun q hq hlq=>?_⟩,?_⟩
 ·rcases lt i hi with u | ⟨u1,u2⟩
  ·simp only [if_pos u];rw[u];exact⟨m0,m1⟩
  ·simp only [if_neg u2];rw[mo _ (by omega),mo _ (by omega)];exact g.sb.nd i u1
 ·exact(g.rw.r j hj).of fun m _=>World.cell?_of_block (a:=⟨br,_,none⟩) fr
 ·rw[hc q];rcases lt q hq with u | ⟨u1,u2⟩
  ·simp only [if_pos u];exact s0
  ·simp only [if_neg u2];exact(g.rw.s q u1).of fun m _=>World.cell?_of_block (a:=⟨cB q,_,none⟩) (fc q u1)
 ·rw[hc q];rcases lt q hq with u | ⟨u1,u2⟩
  ·simp only [if_pos u,Nat.zero_add];exact s7
  ·simp only [if_neg u2];rw[World.cell?_of_block (a:=⟨cB q,_,none⟩) (fc q u1)];exact g.rw.p7 q u1
 ·rw[hc q] at hj ⊢;rcases lt q hq with u | ⟨u1,u2⟩
  ·rw[if_pos u] at hj;simp [Cl0] at hj
  ·rw[if_neg u2] at hj ⊢;exact(g.rw.p q u1 j hj).of fun m _=>World.cell?_of_block (a:=⟨pb q,_,none⟩) (fp q u1 (g.rw.pw u1 (by omega)))
 ·rcases lt q hq with u | ⟨u1,u2⟩
  ·simp only [if_pos u] at hlq;omega
  ·simp only [if_neg u2] at hlq ⊢;obtain⟨a1,a2,a3,a4⟩:=g.rw.pl q u1 hlq;refine⟨a1,nfp_block a2 (fp q u1 hlq) o.size,⟨a3.1,fun j hj=>?_⟩,a4⟩;rcases lt j hj with z | ⟨z1,z2⟩
   ·simp only [if_pos z];intro u;have:=(h.rw.pl q u1 hlq).2.1.1;omega
   ·simp only [if_neg z2];exact a3.2 j z1
 ·rcases lt q hq with u | ⟨u1,u2⟩
  ·simp only [if_pos u];exact⟨nq,Nat.le_trans h.sb.lo.1 (by have:=h.sb.nb.1;omega)⟩
  ·simp only [if_neg u2];exact⟨nf1_block (g.rw.nc q u1).1 (fc q u1) o.size,(g.rw.nc q u1).2⟩
 ·rcases lt q hq with u | ⟨u1,u2⟩
  ·simp only [if_pos u];intro z;have:=(h.rw.nr r0).1.1;omega
  ·simp only [if_neg u2];exact g.rw.d q u1
 ·rcases lt q hq with u | ⟨u1,u2⟩
  ·simp only [if_pos u] at h1;omega
  ·rcases lt q' hq' with z | ⟨z1,z2⟩
   ·simp only [if_pos z] at h2;omega
   ·simp only [if_neg u2] at h1;simp only [if_neg z2] at h2;exact g.rw.dp q q' u1 z1 hqq h1 h2
 ·rcases lt q hq with u | ⟨u1,u2⟩
  ·rcases lt q' hq' with z | ⟨z1,z2⟩
   ·exact absurd (u.trans z.symm) hqq
   ·simp only [if_pos u,if_neg z2];exact .inl (fun t=>by have:=(h.rw.nc q' z1).1.1;omega)
  ·rcases lt q' hq' with z | ⟨z1,z2⟩
   ·simp only [if_pos z,if_neg u2];exact .inl (fun t=>by have:=(h.rw.nc q u1).1.1;omega)
   ·simp only [if_neg u2,if_neg z2];exact g.rw.dc q q' u1 z1 hqq
 ·rw[hc q];rcases lt q hq with u | ⟨u1,u2⟩
  ·simp only [if_pos u];simp [Cl0]
  ·simp only [if_neg u2];exact g.rw.kp q u1
 ·rcases lt q hq with u | ⟨u1,u2⟩
  ·simp only [if_pos u];rw[if_pos hq0]
  ·simp only [if_neg u2];rw[old (cB q) (h.rw.nc q u1).1.1];exact h.sp.c q u1
 ·rcases lt q hq with u | ⟨u1,u2⟩
  ·simp only [if_pos u] at hlq;omega
  ·simp only [if_neg u2] at hlq;rw[old (pb q) (h.rw.pl q u1 hlq).2.1.1];exact h.sp.p q u1 hlq
 ·intro q ob hz;obtain⟨r1,r2⟩:=h.pr q ob hz
  have hlq:q<w.heap.size:=by
   rcases Nat.lt_or_ge q w.heap.size with l | l
   ·exact l
   ·rw[Array.getElem?_eq_none l] at r2;cases r2
  refine⟨by(try dsimp only);rw[old q hlq];exact r1,?_⟩;exact(far q hlq (by rw[r1];omega) (fun u=>by rw[u,hzn] at hz;cases hz)).trans ((e.block q hlq).trans r2)
theorem SOq.wide[Inhabited ProtD]{C D B:Nat}{w:World}{b:Nat}{x:Hp}(h:SOq C B w b x)(hd:C≤D):SOq D B w b x:=by
 obtain⟨ar,kr,a4,n4,k4,a8,m8,k8,br,cB,cO,bn,pb,pa,pk,kn,hd,vf,F,vk,K,role,h,i,k⟩:=h;exact⟨ar,kr,a4,n4,k4,a8,m8,k8,br,cB,cO,bn,pb,pa,pk,kn,hd,vf,F,vk,K,role,h,i.wide (by assumption),k⟩
theorem begin_any[Inhabited ProtD]{C B:Nat}{w:World}{b:Nat}{x:Hp}(h:SOq C B w b x)(hp:x.phase=0)(a:World)(ha:a.heap.size≤B)(hx:Ext a w):
  Calls Tryz.prog 143 #[.pointer (some ⟨b,0,none⟩)] w fun e w'=>e=.returned (nowV 1 b)∧Hid (SOq (C+16000) B w' b (toPh x 1 0))∧Ext a w':=by
 obtain⟨ar,kr,a4,n4,k4,a8,m8,k8,br,cB,cO,bn,pb,pa,pk,kn,hd,vf,F,vk,K,role,h,i,k⟩:=h;refine(turn_low h 0 hp rfl rfl (by omega) a ha hx).mono ?_;rintro e w' ⟨rfl,h2,x2⟩;exact⟨rfl,⟨ar,kr,a4,n4,k4,a8,m8,k8,br,cB,cO,bn,pb,pa,pk,kn,hd,vf,F,vk,K,role,unhide h2,inv0 i hp,k⟩,x2⟩
end Go.Proofs.YtddkhnclmeikfaaGreat
