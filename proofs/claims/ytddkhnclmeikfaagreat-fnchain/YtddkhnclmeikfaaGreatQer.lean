import Derived.Test.YtddkhnclmeikfaaGreatQe
set_option maxRecDepth 100000
set_option maxHeartbeats 1000000
namespace Go.Proofs.YtddkhnclmeikfaaGreat
open Go.RowKit
attribute [local go_sem ↓] Go.wp_at_zero Go.wp_at_succ
theorem SOq.box[Inhabited ProtD]{C B:Nat}{w:World}{b:Nat}{x:Hp}(h:SOq C B w b x):w.cell? ⟨b,5,none⟩=some (iv x.phase)∧w.frozen? ⟨b,5,none⟩=false∧B≤b∧b<w.heap.size:=by
 obtain⟨ar,kr,a4,n4,k4,a8,m8,k8,br,cB,cO,bn,pb,pa,pk,kn,hd,vf,F,vk,K,role,h,i⟩:=h;exact⟨h.sb.bx.2.2.2.2.2.1,h.sb.nb.2 5,h.sb.lo.1,h.sb.nb.1⟩
def unitN : String := "loop.example/spool/impl.unit"
theorem mth_roots(b:Nat)(W:World){s:String}(hs:s=unitN):(method 443 233 (.agg #[.pointer (some ⟨b,0,none⟩)]) s).run Tryz.prog W=.ok (328,.agg #[.pointer (some ⟨b,0,none⟩)]) W:=by subst hs;kernel_rfl
theorem neq_roots(b:Nat)(W:World):(binOp .neq 182 (.iface 233 (.agg #[.pointer (some ⟨b,0,none⟩)])) .nilIface).run Tryz.prog W=.ok (.bool true) W:=by kernel_rfl
theorem mth_mark(b:Nat)(W:World){s:String}(hs:s=unitN):(method 443 234 (.agg #[.pointer (some ⟨b,0,none⟩)]) s).run Tryz.prog W=.ok (329,.agg #[.pointer (some ⟨b,0,none⟩)]) W:=by subst hs;kernel_rfl
theorem neq_mark(b:Nat)(W:World):(binOp .neq 182 (.iface 234 (.agg #[.pointer (some ⟨b,0,none⟩)])) .nilIface).run Tryz.prog W=.ok (.bool true) W:=by kernel_rfl
theorem mth_sweep(b:Nat)(W:World){s:String}(hs:s=unitN):(method 443 235 (.agg #[.pointer (some ⟨b,0,none⟩)]) s).run Tryz.prog W=.ok (331,.agg #[.pointer (some ⟨b,0,none⟩)]) W:=by subst hs;kernel_rfl
theorem neq_sweep(b:Nat)(W:World):(binOp .neq 182 (.iface 235 (.agg #[.pointer (some ⟨b,0,none⟩)])) .nilIface).run Tryz.prog W=.ok (.bool true) W:=by kernel_rfl
theorem mth_move(b:Nat)(W:World){s:String}(hs:s=unitN):(method 443 236 (.agg #[.pointer (some ⟨b,0,none⟩)]) s).run Tryz.prog W=.ok (333,.agg #[.pointer (some ⟨b,0,none⟩)]) W:=by subst hs;kernel_rfl
theorem neq_move(b:Nat)(W:World):(binOp .neq 182 (.iface 236 (.agg #[.pointer (some ⟨b,0,none⟩)])) .nilIface).run Tryz.prog W=.ok (.bool true) W:=by kernel_rfl
theorem mth_mend(b:Nat)(W:World){s:String}(hs:s=unitN):(method 443 237 (.agg #[.pointer (some ⟨b,0,none⟩)]) s).run Tryz.prog W=.ok (335,.agg #[.pointer (some ⟨b,0,none⟩)]) W:=by subst hs;kernel_rfl
theorem neq_mend(b:Nat)(W:World):(binOp .neq 182 (.iface 237 (.agg #[.pointer (some ⟨b,0,none⟩)])) .nilIface).run Tryz.prog W=.ok (.bool true) W:=by kernel_rfl
theorem mth_shut(b:Nat)(W:World){s:String}(hs:s=unitN):(method 443 238 (.agg #[.pointer (some ⟨b,0,none⟩)]) s).run Tryz.prog W=.ok (336,.agg #[.pointer (some ⟨b,0,none⟩)]) W:=by subst hs;kernel_rfl
theorem neq_shut(b:Nat)(W:World):(binOp .neq 182 (.iface 238 (.agg #[.pointer (some ⟨b,0,none⟩)])) .nilIface).run Tryz.prog W=.ok (.bool true) W:=by kernel_rfl
theorem work_any[Inhabited ProtD]{C B:Nat}{w:World}{b:Nat}{x:Hp}(n:Nat)(h:SOq C B w b x)(hC:C≤1000000000)(s:Snd x)(a:World)(ha:a.heap.size≤B)(hx:Ext a w):
  Calls Tryz.prog 144 #[.pointer (some ⟨b,0,none⟩),.int .i64 n] w fun e w'=>∃k:Nat,e=.returned (.int .i64 k)∧Hid (StepIs x n k)∧Hid (SOq C B w' b (itU k x))∧Ext a w':=by
 have HS:=hide h;have S:=hide s;have NW:=hide (now_any x.phase b w h.box.1 s.r1.phase);have XS:=hide hx;clear h s;go_enter Tryz.func144,Tryz.ntmps144;go_wp2_with fail;refine(unhide NW).mono ?_;rintro e w1 ⟨rfl,hw1⟩;subst hw1;go_wp2_with fail
 go_loopg [5,6] (14000000) (fun gk u now wr=>∃k:Nat,u=.int .i64 k∧now=nowV (itU k x).phase b∧Hid (k≤n)∧Hid (Runs x k)∧Hid (mu (itU k x)≤gk)∧Hid (SOq C B wr b (itU k x))∧Hid (Ext a wr))
 case atStart=>exact⟨0,rfl,rfl,Nat.zero_le _,Runs.zero _,(unhide S).mu_le,unhide HS,unhide XS⟩
 case round=>
  clear HS XS NW;obtain⟨k,rfl,rfl,hkn,hr,hm,hG,hxr⟩:=hrel;have kl:=(unhide hr).le (unhide S);have SK:=hide ((unhide S).itU k);by_cases p0:(itU k x).phase=0
  ·have EP:=hide p0;have e0:nowV (itU k x).phase b=.nilIface:=by rw[p0];rfl
   have q0:∀W,(binOp .neq 182 .nilIface .nilIface).run Tryz.prog W=.ok (.bool false) W:=fun _=>by kernel_rfl
   rw[e0];clear p0 e0;go_wp2_with fail;go_ret;exact⟨k,rfl,⟨unhide hr,unhide hkn,.inr (unhide EP)⟩,unhide hG,unhide hxr⟩
  ·by_cases hlt:k<n
   ·have h1:(k:Int)<(n:Int):=by omega
    have R3:=hide ((unhide hr).succ p0);have M3:=hide (show mu (itU (k+1) x)<mu (itU k x) from(unhide SK).less p0);have wk:wrap64 ((k:Int)+1)=(k:Int)+1:=by unfold wrap64;omega
    have HP:=hide (unhide SK).r1.phase;have P0:=hide p0;have HK:=hide (show k+1≤n by omega);clear p0;by_cases p1:(itU k x).phase=1
    ·have e1:nowV (itU k x).phase b=.iface 233 (.agg #[.pointer (some ⟨b,0,none⟩)]):=by rw[p1];rfl
     have q1:∀W,(binOp .neq 182 (.iface 233 (.agg #[.pointer (some ⟨b,0,none⟩)])) .nilIface).run Tryz.prog W=.ok (.bool true) W:=neq_roots b;have EU:=hide (show unit1 (itU k x)=itU (k+1) x by show unit1 (itU k x)=unitH (itU k x);unfold unitH;simp [p1]);have P1:=hide p1;rw[e1];clear p1 e1;go_wp2_with fail;rw[mth_roots b _ (show _=unitN by kernel_rfl)];go_wp2_with fail;refine(unit1_any (unhide hG) (unhide SK) (unhide P1) a ha (unhide hxr)).mono ?_;rintro e w3 ⟨rfl,h3,x3⟩;rw[unhide EU] at h3 ⊢;have X3:=hide x3;clear x3;go_wp2_with fail
     go_roundg (mu (itU (k+1) x))
     case measure=>have:=unhide M3;have:=unhide hm;omega
     case rel=>exact⟨k+1,by go_num,rfl,unhide HK,unhide R3,Nat.le_refl _,unhide h3,unhide X3⟩
    ·skip
     by_cases p2:(itU k x).phase=2
     ·have e1:nowV (itU k x).phase b=.iface 234 (.agg #[.pointer (some ⟨b,0,none⟩)]):=by rw[p2];rfl
      have q1:∀W,(binOp .neq 182 (.iface 234 (.agg #[.pointer (some ⟨b,0,none⟩)])) .nilIface).run Tryz.prog W=.ok (.bool true) W:=neq_mark b;have EU:=hide (show unit2 (itU k x)=itU (k+1) x by show unit2 (itU k x)=unitH (itU k x);unfold unitH;simp [p2]);have P1:=hide p2;rw[e1];clear p2 e1;go_wp2_with fail;rw[mth_mark b _ (show _=unitN by kernel_rfl)];go_wp2_with fail;refine(unit2_any (unhide hG) (unhide SK) (unhide P1) a ha (unhide hxr)).mono ?_;rintro e w3 ⟨rfl,h3,x3⟩;rw[unhide EU] at h3 ⊢;have X3:=hide x3;clear x3;go_wp2_with fail
      go_roundg (mu (itU (k+1) x))
      case measure=>have:=unhide M3;have:=unhide hm;omega
      case rel=>exact⟨k+1,by go_num,rfl,unhide HK,unhide R3,Nat.le_refl _,unhide h3,unhide X3⟩
     ·skip
      by_cases p3:(itU k x).phase=3
      ·have e1:nowV (itU k x).phase b=.iface 235 (.agg #[.pointer (some ⟨b,0,none⟩)]):=by rw[p3];rfl
       have q1:∀W,(binOp .neq 182 (.iface 235 (.agg #[.pointer (some ⟨b,0,none⟩)])) .nilIface).run Tryz.prog W=.ok (.bool true) W:=neq_sweep b;have EU:=hide (show unit3 (itU k x)=itU (k+1) x by show unit3 (itU k x)=unitH (itU k x);unfold unitH;simp [p3]);have P1:=hide p3;rw[e1];clear p3 e1;go_wp2_with fail;rw[mth_sweep b _ (show _=unitN by kernel_rfl)];go_wp2_with fail;refine(unit3_any (unhide hG) hC (unhide SK) (unhide P1) a ha (unhide hxr)).mono ?_;rintro e w3 ⟨rfl,h3,x3⟩;rw[unhide EU] at h3 ⊢;have X3:=hide x3;clear x3;go_wp2_with fail
       go_roundg (mu (itU (k+1) x))
       case measure=>have:=unhide M3;have:=unhide hm;omega
       case rel=>exact⟨k+1,by go_num,rfl,unhide HK,unhide R3,Nat.le_refl _,unhide h3,unhide X3⟩
      ·skip
       by_cases p4:(itU k x).phase=4
       ·have e1:nowV (itU k x).phase b=.iface 236 (.agg #[.pointer (some ⟨b,0,none⟩)]):=by rw[p4];rfl
        have q1:∀W,(binOp .neq 182 (.iface 236 (.agg #[.pointer (some ⟨b,0,none⟩)])) .nilIface).run Tryz.prog W=.ok (.bool true) W:=neq_move b;have EU:=hide (show unit4 (itU k x)=itU (k+1) x by show unit4 (itU k x)=unitH (itU k x);unfold unitH;simp [p4]);have P1:=hide p4;rw[e1];clear p4 e1;go_wp2_with fail;rw[mth_move b _ (show _=unitN by kernel_rfl)];go_wp2_with fail;refine(unit4_any (unhide hG) hC (unhide SK) (unhide P1) a ha (unhide hxr)).mono ?_;rintro e w3 ⟨rfl,h3,x3⟩;rw[unhide EU] at h3 ⊢;have X3:=hide x3;clear x3;go_wp2_with fail
        go_roundg (mu (itU (k+1) x))
        case measure=>have:=unhide M3;have:=unhide hm;omega
        case rel=>exact⟨k+1,by go_num,rfl,unhide HK,unhide R3,Nat.le_refl _,unhide h3,unhide X3⟩
       ·skip
        by_cases p5:(itU k x).phase=5
        ·have e1:nowV (itU k x).phase b=.iface 237 (.agg #[.pointer (some ⟨b,0,none⟩)]):=by rw[p5];rfl
         have q1:∀W,(binOp .neq 182 (.iface 237 (.agg #[.pointer (some ⟨b,0,none⟩)])) .nilIface).run Tryz.prog W=.ok (.bool true) W:=neq_mend b;have EU:=hide (show unit5 (itU k x)=itU (k+1) x by show unit5 (itU k x)=unitH (itU k x);unfold unitH;simp [p5]);have P1:=hide p5;rw[e1];clear p5 e1;go_wp2_with fail;rw[mth_mend b _ (show _=unitN by kernel_rfl)];go_wp2_with fail;refine(unit5_any (unhide hG) (unhide SK) (unhide P1) a ha (unhide hxr)).mono ?_;rintro e w3 ⟨rfl,h3,x3⟩;rw[unhide EU] at h3 ⊢;have X3:=hide x3;clear x3;go_wp2_with fail
         go_roundg (mu (itU (k+1) x))
         case measure=>have:=unhide M3;have:=unhide hm;omega
         case rel=>exact⟨k+1,by go_num,rfl,unhide HK,unhide R3,Nat.le_refl _,unhide h3,unhide X3⟩
        ·skip
         have p6:(itU k x).phase=6:=by have:=unhide HP;have:=unhide P0;omega
         have e1:nowV (itU k x).phase b=.iface 238 (.agg #[.pointer (some ⟨b,0,none⟩)]):=by rw[p6];rfl
         have q1:∀W,(binOp .neq 182 (.iface 238 (.agg #[.pointer (some ⟨b,0,none⟩)])) .nilIface).run Tryz.prog W=.ok (.bool true) W:=neq_shut b;have EU:=hide (show unit6 (itU k x)=itU (k+1) x by show unit6 (itU k x)=unitH (itU k x);unfold unitH;simp [p6]);have P1:=hide p6;rw[e1];clear p6 e1;go_wp2_with fail;rw[mth_shut b _ (show _=unitN by kernel_rfl)];go_wp2_with fail;refine(unit6_any (unhide hG) hC (unhide SK) (unhide P1) a ha (unhide hxr)).mono ?_;rintro e w3 ⟨rfl,h3,x3⟩;rw[unhide EU] at h3 ⊢;have X3:=hide x3;clear x3;go_wp2_with fail
         go_roundg (mu (itU (k+1) x))
         case measure=>have:=unhide M3;have:=unhide hm;omega
         case rel=>exact⟨k+1,by go_num,rfl,unhide HK,unhide R3,Nat.le_refl _,unhide h3,unhide X3⟩
   ·have h1:¬(k:Int)<(n:Int):=by omega
    have hkn2:=hide (show k=n by have:=unhide hkn;omega)
    have Q:=hide (show ∃T,nowV (itU k x).phase b=.iface T (.agg #[.pointer (some ⟨b,0,none⟩)])∧∀W,(binOp .neq 182 (.iface T (.agg #[.pointer (some ⟨b,0,none⟩)])) .nilIface).run Tryz.prog W=.ok (.bool true) W by
     have hp:=(unhide SK).r1.phase;have h:(itU k x).phase=1∨(itU k x).phase=2∨(itU k x).phase=3∨(itU k x).phase=4∨(itU k x).phase=5∨(itU k x).phase=6:=by omega
     rcases h with e | e | e | e | e | e
     ·exact⟨_,by rw[e];rfl,neq_roots b⟩
     ·exact⟨_,by rw[e];rfl,neq_mark b⟩
     ·exact⟨_,by rw[e];rfl,neq_sweep b⟩
     ·exact⟨_,by rw[e];rfl,neq_move b⟩
     ·exact⟨_,by rw[e];rfl,neq_mend b⟩
     ·exact⟨_,by rw[e];rfl,neq_shut b⟩)
    obtain⟨T,e1,q1⟩:=unhide Q;rw[e1];clear p0 e1;go_wp2_with fail;go_ret;exact⟨k,rfl,⟨unhide hr,unhide hkn,.inl (unhide hkn2)⟩,unhide hG,unhide hxr⟩
theorem step_any[Inhabited ProtD]{C B:Nat}{w:World}{b:Nat}{x:Hp}(n:Nat)(h:SOq C B w b x)(hC:C+16000≤1000000000)(s:Snd x)(n1:n≤100000)(a:World)(ha:a.heap.size≤B)(hx:Ext a w):
  Calls Tryz.prog 80 #[.pointer (some ⟨b,0,none⟩),.int .i64 n] w fun e w'=>∃k:Nat,e=.returned (.int .i64 k)∧Hid (StepIs (stepH x n) n k)∧Hid (SOq (C+16000) B w' b (itU k (stepH x n)))∧Ext a w':=by
 have c5:=h.box.1;have hb:b<w.heap.size:=h.box.2.2.2;have H:=hide h;have S:=hide s;by_cases hn:n=0
 ·have e:stepH x n=x:=by unfold stepH;rw[if_neg (fun h=>h.2 hn)]
  rw[e];have g0:¬(n:Int) > 0:=by omega
  clear h s e hn;go_enter Tryz.func80,Tryz.ntmps80;go_wp2_with fail;refine(work_any n ((unhide H).wide (show C≤C+16000 by omega)) hC (unhide S) a ha hx).mono ?_;rintro e w1 ⟨k,rfl,st,h1,x1⟩;go_wp2_with fail;go_ret;exact⟨k,rfl,unhide st,unhide h1,x1⟩
 ·have g0:(n:Int) > 0:=by omega
  by_cases hp:x.phase=0
  ·have e:stepH x n=toPh x 1 0:=by unfold stepH;rw[if_pos ⟨hp,hn⟩]
   rw[e];rw[hp] at c5;have QB:=hide (begin_any h hp a ha hx);have S1:=hide (s.begin hp);clear h s e hn hp;go_enter Tryz.func80,Tryz.ntmps80;go_wp2_with fail;refine(unhide QB).mono ?_;rintro e w1 ⟨rfl,h1,x1⟩;go_wp2_with fail;refine(work_any n (unhide h1) hC (unhide S1) a ha x1).mono ?_;rintro e w2 ⟨k,rfl,st,h2,x2⟩;go_wp2_with fail;go_ret;exact⟨k,rfl,unhide st,unhide h2,x2⟩
  ·have e:stepH x n=x:=by unfold stepH;rw[if_neg (fun h=>hp h.1)]
   rw[e];have pb:(x.phase == 0)=false:=by simpa using hp
   clear h s e hn hp;go_enter Tryz.func80,Tryz.ntmps80;go_wp2_with fail;refine(work_any n ((unhide H).wide (show C≤C+16000 by omega)) hC (unhide S) a ha hx).mono ?_;rintro e w1 ⟨k,rfl,st,h1,x1⟩;go_wp2_with fail;go_ret;exact⟨k,rfl,unhide st,unhide h1,x1⟩
theorem finish_any[Inhabited ProtD]{C B:Nat}{w:World}{b:Nat}{x:Hp}(h:SOq C B w b x)(hC:C≤1000000000)(s:Snd x)(a:World)(ha:a.heap.size≤B)(hx:Ext a w):
  Calls Tryz.prog 85 #[.pointer (some ⟨b,0,none⟩)] w fun e w'=>∃k:Nat,e=.returned (.int .i64 k)∧Hid (EndIs x k)∧Hid (SOq C B w' b (itU k x))∧Ext a w':=by
 have Q:=hide (work_any 9223372036854775807 h hC s a ha hx);have S:=hide s;clear h s;go_enter Tryz.func85,Tryz.ntmps85;go_wp2_with fail;refine(unhide Q).mono ?_;rintro e w1 ⟨k,rfl,st,h1,x1⟩
 have E:=hide (show EndIs x k by
  obtain⟨r,_,e⟩:=unhide st;refine⟨?_,r⟩;rcases e with e | e
  ·have:=r.le (unhide S);omega
  ·exact e)
 clear st Q;go_wp2_with fail;go_ret;exact⟨k,rfl,unhide E,unhide h1,x1⟩
def EndH(x:Hp)(y:Hp):Prop:=∃k,EndIs x k∧y=itU k x
theorem EndH.snd{x y:Hp}(s:Snd x)(h:EndH x y):Snd y∧y.phase=0:=by
 obtain⟨k,a,b⟩:=h;rw[b];exact⟨s.itU k,a.1⟩
theorem round_any[Inhabited ProtD]{C B:Nat}{w:World}{b:Nat}{x:Hp}(h:SOq C B w b x)(hC:C+16000≤1000000000)(s:Snd x)(a:World)(ha:a.heap.size≤B)(hx:Ext a w):
  Calls Tryz.prog 81 #[.pointer (some ⟨b,0,none⟩)] w fun e w'=>∃y z,e=.returned (.tuple #[])∧Hid (EndH x y∧EndH (toPh y 1 0) z)∧Hid (SOq (C+16000) B w' b z)∧Ext a w':=by
 have H:=hide h;have S:=hide s;clear h s;go_enter Tryz.func81,Tryz.ntmps81;go_wp2_with fail;refine(finish_any (unhide H) (by omega) (unhide S) a ha hx).mono ?_;rintro e w1 ⟨k,rfl,he,h1,x1⟩;obtain⟨y,hy⟩:∃y,y=itU k x:=⟨_,rfl⟩;rw[←hy] at h1;have EY:=hide (show EndH x y from⟨k,unhide he,hy⟩);clear he hy;go_wp2_with fail;refine(begin_any (unhide h1) ((unhide EY).snd (unhide S)).2 a ha x1).mono ?_;rintro e w2 ⟨rfl,h2,x2⟩;go_wp2_with fail;refine(finish_any (unhide h2) hC (((unhide EY).snd (unhide S)).1.begin ((unhide EY).snd (unhide S)).2) a ha x2).mono ?_;rintro e w3 ⟨k2,rfl,he,h3,x3⟩;have EZ:=hide (show EndH (toPh y 1 0) (itU k2 (toPh y 1 0)) from⟨k2,unhide he,rfl⟩);clear he;go_wp2_with fail
 go_end0
 exact⟨y,_,rfl,⟨unhide EY,unhide EZ⟩,unhide h3,x3⟩
end Go.Proofs.YtddkhnclmeikfaaGreat
