import Derived.Test.YtddkhnclmeikfaaGreatJb
import Derived.Test.YtddkhnclmeikfaaGreatCm4
import Derived.Test.YtddkhnclmeikfaaGreatRby
import Derived.Test.YtddkhnclmeikfaaGreatOw
import Derived.RangeFuncFrom
namespace Go.Proofs.YtddkhnclmeikfaaGreat
open Go.RowKit
attribute [local go_sem ↓] Go.wp_at_zero Go.wp_at_succ
theorem filt_cut(p:Nat→Bool)(h:Nat):∀d,(List.range (h+d)).filter (fun i=>p i && decide ((i:Int)<(h:Int)))=(List.range h).filter p
 | 0=>by
  refine List.filter_congr fun i hi=>?_
  have:=List.mem_range.1 hi;have e:decide ((i:Int)<(h:Int))=true:=by simp;omega
  rw[e,Bool.and_true]
 | d+1=>by
  rw[←Nat.add_assoc,List.range_succ,List.filter_append,filt_cut p h d,List.filter_cons_of_neg (by simp;intro _;omega),List.filter_nil,List.append_nil]
theorem frees_len(x:Hp)(k:Nat):(frees x k).length≤k:=valsTo_len _ _ _
theorem SOwn.soq[Inhabited ProtD](hz:∀q,(default:ProtD).z q=none){B:Nat}{w:World}{b:Nat}{x:Hp}(h:SOwn B w b x)(s:Snd x):SOq 24000 B w b x:=by
 obtain⟨ar,kr,a4,n4,k4,a8,m8,k8,br,cB,cO,bn,pb,pa,pk,kn,hd,vf,F,vk,role,hst,ho,pm,hk⟩:=h;have hh:=s.r1.hand;have n8:=s.ok.n8;have cc:=s.r1.cells;refine⟨ar,kr,a4,n4,k4,a8,m8,k8,br,cB,cO,bn,pb,pa,pk,kn,hd,vf,F,vk,_,role,hst,⟨ho,fun i hi h0=>?_,fun v hv=>?_,?_,fun h3=>?_,fun h4=>?_,fun h3 h4=>?_⟩,by omega,hz bn⟩
 ·exact pm.mem_iff.2 ((frees_mem x _ _).2 ⟨i,hi,h0,rfl⟩)
 ·obtain⟨i,_,_,e⟩:=(frees_mem x _ _).1 (pm.mem_iff.1 hv);omega
 ·have l1:=pm.length_eq;have l2:=frees_len x x.cells.length
  have l3:remU x≤16000:=by
   unfold remU
   split
   ·omega
   split
   ·omega
   split
   ·omega
   split
   ·omega
   ·omega
  omega
 ·have e:x.cells.length=x.hand.toNat+(x.cells.length-x.hand.toNat):=by omega
  have e2:keptTo x x.cells.length=(List.range x.cells.length).filter (fun i=>((x.c i).st == 1) && decide ((i:Int)<(x.hand.toNat:Int))):=by
   unfold keptTo;refine List.filter_congr fun i _=>?_
   have:sweptB x i=decide ((i:Int)<(x.hand.toNat:Int)):=by
    unfold sweptB;rw[h3,show((x.hand.toNat:Nat):Int)=x.hand by omega];simp
   rw[this]
  rw[e2,e,filt_cut (fun i=>(x.c i).st == 1) x.hand.toNat _];refine⟨List.pairwise_lt_range.filter _,fun i hi=>?_,fun i hi h1 hn=>?_⟩
  ·obtain⟨a,b⟩:=List.mem_filter.1 hi;exact⟨List.mem_range.1 a,by simpa using b⟩
  ·exact absurd (List.mem_filter.2 ⟨List.mem_range.2 hi,by simpa using h1⟩) hn
 ·have e2:keptTo x x.cells.length=(List.range x.cells.length).filter (fun i=>(x.c i).st == 1):=by
   unfold keptTo;refine List.filter_congr fun i _=>?_
   have:sweptB x i=true:=by unfold sweptB;simp [h4]
   rw[this,Bool.and_true]
  rw[e2];refine⟨List.pairwise_lt_range.filter _,fun i hi=>?_,fun i hi h1 hn=>?_⟩
  ·obtain⟨a,b⟩:=List.mem_filter.1 hi;exact⟨List.mem_range.1 a,by simpa using b⟩
  ·exact absurd (List.mem_filter.2 ⟨List.mem_range.2 hi,by simpa using h1⟩) hn
 ·unfold keptTo;refine List.filter_eq_nil_iff.2 fun i _=>?_
  have:sweptB x i=false:=by unfold sweptB;simp [h3,h4]
  simp [this]
theorem fresh_R(R:Int)(h1:1≤R)(h2:R≤4000)(w:World):Calls Tryz.prog 99 #[.int .i64 R] w fun e w'=>∃c,e=.returned ((frH R).v (.slice (some ⟨w.heap.size+1,0,none⟩) 16 16) (.slice none 0 0) (.slice none 0 0))∧w'=(w.alloc c).alloc (.cells (zw 48) 152):=by
 have hmk:=mk16;go_enter Tryz.func99,Tryz.ntmps99;go_wp2_with (go_at_call 78;refine(within_in _ _ _ _ (by omega) (by omega)).mono ?_;rintro e w' ⟨rfl,rfl⟩);exact bodyPost_ret (v:=(frH R).v (.slice (some ⟨w.heap.size+1,0,none⟩) 16 16) (.slice none 0 0) (.slice none 0 0)) (by simp [results,Tryz.results99,go_sem,frH]) rfl ⟨_,rfl,rfl⟩
theorem zw_at(w:World)(t:TypeId)(j:Nat)(hj:j<48):(w.alloc (.cells (zw 48) t)).cell? ⟨w.heap.size,j,none⟩=some (iv 0):=by
 have:=heap_alloc_new w (.cells (zw 48) t);unfold World.cell?;simp only [this];simp [zw,hj]
theorem fresh_regs(R:Int)(w:World)(t:TypeId):SlW (w.alloc (.cells (zw 48) t)) (.slice (some ⟨w.heap.size,0,none⟩) (frH R).regs.length 16) (frH R).regs:=by
 have e:(frH R).regs.length=16:=by simp [frH]
 refine⟨_,_,rfl,by rw[e];omega,fun i hi=>⟨w.heap.size,0,rfl,?_⟩⟩;have e3:(frH R).regs[i]=⟨0,0,0⟩:=List.eq_of_mem_replicate (n:=16) (List.getElem_mem hi);rw[e3];rw[e] at hi;exact⟨zw_at w t _ (by omega),zw_at w t _ (by omega),zw_at w t _ (by omega)⟩
theorem playable_any(R:Int)(h1:1≤R)(h2:R≤4000)(ad:Option Addr)(n cap:Nat)(w:World)(hn:n≤1000):Calls Tryz.prog 56 #[.int .i64 R,.slice ad n cap] w fun e w'=>e=.returned (.bool true)∧w'=w:=by
 have h:(n:Int)≤1000:=by omega
 go_enter Tryz.func56,Tryz.ntmps56;go_wp2_with (go_at_call 78;refine(within_in _ _ _ _ (by omega) (by omega)).mono ?_;rintro e w' ⟨rfl,rfl⟩);go_ret;exact⟨rfl,rfl⟩
theorem empty_any(R:Int)(h1:1≤R)(h2:R≤4000)(w:World):Calls Tryz.prog 57 #[.int .i64 R] w fun e w'=>∃(b B:Nat) (p:Inhabited ProtD),Hid (e=.returned (.pointer (some ⟨b,0,none⟩)))∧Hid (∀q,(@default ProtD p).z q=none)∧Hid (@SOq p 24000 B w' b (frH R))∧w.heap.size≤B∧B≤w'.heap.size∧Ext w w':=by
 go_enter Tryz.func57,Tryz.ntmps57;go_wp2_with fail;refine(fresh_R R h1 h2 w).mono ?_;rintro e w1 ⟨c,rfl,hw1⟩;have sn:=frH_snd R h1 h2
 have SR:=hide (show SlW w1 (.slice (some ⟨w.heap.size+1,0,none⟩) (frH R).regs.length 16) (frH R).regs from by
  rw[hw1];have:=fresh_regs R (w.alloc c) 152
  simpa using this)
 have x1:Ext w w1:=by rw[hw1];exact((Ext.refl w).alloc _).alloc _
 clear hw1;have SN:=hide sn;have e16:(frH R).regs.length=16:=by simp [frH]
 have OA:=hide (open_any (frH R) w1 (ar:=some ⟨w.heap.size+1,0,none⟩) (kr:=16) (ac:=none) (kc:=0) (ag:=none) (kg:=0) (unhide SR) ⟨none,0,rfl,by simp [frH],fun i hi=>by simp [frH] at hi⟩ ⟨none,0,rfl,by simp [frH],fun i hi=>by simp [frH] at hi⟩);rw[e16] at OA;clear sn SR e16;go_wp2_with fail;refine(unhide OA).mono ?_;rintro e w2 ⟨b,he,x2,hv⟩;have e2:=unhide he;subst e2;rcases unhide hv with⟨no,_⟩ | ⟨_,an,kn,base,vf,F,va,_⟩
 ·exact absurd (unhide SN).r1 no
 ·have VA:=hide va;obtain⟨pin,HZ⟩:∃i:Inhabited ProtD,Hid (∀q,(@default ProtD i).z q=none):=⟨⟨⟨fun _=>none⟩⟩,fun _=>rfl⟩;have OW:=hide (owned_any (unhide HZ) (frH R) b w2 (unhide VA) (unhide SN).r1 (unhide SN).r2 (unhide SN).r5 (by simp [frH]));clear he hv va OA;go_wp2_with fail;refine(unhide OW).mono ?_;rintro e w3 ⟨s,rfl,hs,x3⟩;have ST:=hide ((unhide hs).soq (unhide HZ) (unhide SN));clear hs OW;go_wp2_with fail;go_ret;exact⟨s,w2.heap.size,pin,rfl,HZ,ST,by have:=(x1.trans x2).size;omega,x3.size,(x1.trans x2).trans x3⟩
end Go.Proofs.YtddkhnclmeikfaaGreat
