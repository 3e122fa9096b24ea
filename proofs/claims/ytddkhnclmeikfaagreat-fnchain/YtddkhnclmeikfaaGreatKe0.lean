import Derived.Test.YtddkhnclmeikfaaGreatMa
import Derived.ArgAppend
namespace Go.Proofs.YtddkhnclmeikfaaGreat
open Go.RowKit
attribute [local go_sem ↓] Go.wp_at_zero Go.wp_at_succ
theorem shortHc(x:Hp)(i n:Nat)(hi:i<x.cells.length)(q:Nat):(shortH x i n).c q=if q=i then shortC (x.c i) n else x.c q:=Hp.c_set x i (shortC (x.c i) n) hi q
theorem shortC_p(c:Cl)(n k:Nat)(hk:k<(shortC c n).prs.length):(shortC c n).p k=c.p k∧k<n∧k<c.prs.length:=by
 have e:(shortC c n).prs=c.prs.take n:=rfl;rw[e,List.length_take] at hk;refine⟨?_,by omega,by omega⟩;unfold Cl.p;rw[e];simp [show k<n by omega]
theorem Thin.short{x:Hp}(h:Snd x)(i n:Nat)(hi:i<x.cells.length)(s1:(x.c i).st=1):Thin x (shortH x i n) where
 hl:=by simp [shortH]
 rest:=RestH.refl _
 c:=fun q=>by rw[shortHc x i n hi q];split;(· rename_i t;rw[t];exact⟨rfl,rfl,rfl,rfl,rfl⟩);(· exact⟨rfl,rfl,rfl,rfl,rfl⟩)
 wk:=fun q=>by rw[shortHc x i n hi q];split;(· rename_i t;rw[t];exact .inl rfl);(· exact .inl rfl)
 la:=fun q=>by rw[shortHc x i n hi q];split;(· rename_i t;rw[t];exact .inl rfl);(· exact .inl rfl)
 sp:=fun q=>by rw[shortHc x i n hi q];split;(· rename_i t;rw[t];exact id);(· exact id)
 p:=fun q hq k hk=>by
  rw[shortHc x i n hi q] at hk ⊢
  split at hk
  ·rename_i t;rw[if_pos t,t];obtain⟨a,b,c⟩:=shortC_p _ _ _ hk;refine⟨k,c,a,fun hs=>?_⟩;show(k:Int)<(if scanI x=(i:Int)∧(n:Int)<x.sub then (n:Int) else x.sub)↔_
   split <;> omega
  ·rename_i t;rw[if_neg t];refine⟨k,hk,rfl,fun hs=>?_⟩;show(k:Int)<(if scanI x=(i:Int)∧(n:Int)<x.sub then (n:Int) else x.sub)↔_;rw[if_neg (fun u=>by omega)]
 le:=fun q hq=>by
  rw[shortHc x i n hi q];split
  ·rename_i t;rw[t];show((x.c i).prs.take n).length≤_;rw[List.length_take];omega
  ·exact Nat.le_refl _
 us:=by
  have u:=units_set2 x.cells i (shortC (x.c i) n) hi;rw[Hp.c_eq x i hi] at u;have e1:unitsOf (x.c i)=1+(x.c i).prs.length:=by unfold unitsOf;rw[if_pos s1]
  have e2:unitsOf (shortC (x.c i) n)=1+min n (x.c i).prs.length:=by
   unfold unitsOf;show(if (x.c i).st=1 then 1+((x.c i).prs.take n).length else 0)=_;rw[if_pos s1,List.length_take]
  have h3:=h.r3.1;show x.used-(((x.c i).prs.length-n:Nat):Int)=(units (x.cells.set i (shortC (x.c i) n)):Nat);rw[e1,e2] at u;omega
 ul:=by show x.used-(((x.c i).prs.length-n:Nat):Int)≤x.used;omega
 s0:=by
  have:=h.r1.sub;show 0≤(if scanI x=(i:Int)∧(n:Int)<x.sub then (n:Int) else x.sub)∧(if scanI x=(i:Int)∧(n:Int)<x.sub then (n:Int) else x.sub)≤x.sub
  split <;> omega
 s1:=fun q hq hs=>by
  have k:=h.scan q hs;show(if scanI x=(i:Int)∧(n:Int)<x.sub then (n:Int) else x.sub)≤_;rw[shortHc x i n hi q];by_cases t:q=i
  ·rw[if_pos t];have e:(shortC (x.c i) n).prs.length=min n (x.c i).prs.length:=List.length_take;rw[e];rw[t] at k hs
   split <;> omega
  ·rw[if_neg t,if_neg (fun u=>by omega)];exact k
theorem Snd.short{x:Hp}(h:Snd x)(i n:Nat)(hi:i<x.cells.length)(s1:(x.c i).st=1):Snd (shortH x i n):=h.thin (Thin.short h i n hi s1)
abbrev z6:Array Value:=#[iv 0,iv 0,iv 0,iv 0,iv 0,iv 0]
theorem made6(m j:Nat)(hj:j<m):(madeCells z6 m)[j]?=some (iv 0):=by
 have h6:j % 6<6:=Nat.mod_lt _ (by omega)
 have:([iv 0,iv 0,iv 0,iv 0,iv 0,iv 0]:List Value)[j % 6]?.getD default=iv 0:=by
  have:j % 6=0∨j % 6=1∨j % 6=2∨j % 6=3∨j % 6=4∨j % 6=5:=by omega
  rcases this with e | e | e | e | e | e <;> rw[e] <;> rfl
 simp [madeCells,hj];exact this
theorem mkPairsZ(n:Nat)(hn:n≤1048576)(w:World):(Instr.makeSlice 60 (.int .i64 n) (.int .i64 n)).run Tryz.prog w=.ok (.slice (some ⟨w.heap.size,0,none⟩) n n) (w.alloc (.cells (madeCells z6 (n*6)) 154)):=by
 obtain⟨i0,hi,hz0,hz1,hz2⟩:=info_parts infoPairs;have h:=run_make (P:=Tryz.prog) w 60 154 i0 _ Tryz.underlying60 hi hz0 .i64 .i64 n n (by omega) (Int.le_refl _) (by rw[hz2];omega) (by omega);rw[hz1] at h;simp only [Int.toNat_natCast] at h;exact h
structure NewP(w0 W:World)(qb n:Nat):Prop where
 lt:w0.heap.size≤qb
 nf:Nfp qb n W
 z:∀k,k<n→PrAt W qb (k*6) Pr0
theorem NewP.ext{w0 W W':World}{qb n:Nat}(h:NewP w0 W qb n)(e:Ext W W'):NewP w0 W' qb n:=⟨h.lt,h.nf.ext e,fun k hk=>(h.z k hk).ext e⟩
theorem NewP.made(w0 w:World)(n:Nat)(t:TypeId)(e:Ext w0 w):NewP w0 (w.alloc (.cells (madeCells z6 (n*6)) t)) w.heap.size n:=by
 have hn:(w.alloc (.cells (madeCells z6 (n*6)) t)).heap[w.heap.size]?=some (.cells (madeCells z6 (n*6)) t):=heap_alloc_new w _;have cz:∀j,j<n*6→(w.alloc (.cells (madeCells z6 (n*6)) t)).cell? ⟨w.heap.size,j,none⟩=some (iv 0):=fun j hj=>by rw[cell_of_row _ w.heap.size j _ _ (0,0) hn];exact made6 _ j hj
 exact⟨e.size,⟨by simp,fun _=>by simp [go_sem],fun j hj=>⟨_,cz j hj⟩⟩,fun k hk=>⟨cz _ (by omega),cz _ (by omega),cz _ (by omega),cz _ (by omega),cz _ (by omega),cz _ (by omega)⟩⟩
theorem NewP.only{w0 W W':World}{qb n:Nat}{S:Nat→Prop}(h:NewP w0 W qb n)(o:Only S W W')(hS:¬S qb):NewP w0 W' qb n:=
 ⟨h.lt,nfp_block h.nf (o.block qb h.nf.1 hS) o.size,fun k hk=>(h.z k hk).of fun _ _=>World.cell?_of_block (a:=⟨qb,_,none⟩) (o.block qb h.nf.1 hS)⟩
theorem Snd.res{x:Hp}(h:Snd x){u:Wd}{m:Prop}(hl:Leads x u m):Leads x (resW x u) False:=by
 unfold resW
 split
 ·rename_i e;have hlt:u.a.toNat<x.cells.length:=by rcases hl.1 with f | f | f <;> omega
  rcases h.r2.1 _ hlt with⟨a,_⟩ | ⟨_,b⟩ | ⟨a,_⟩
  ·have:=e.2;omega
  ·obtain⟨b1,b2,b3,b4,b5,_⟩:=b;exact⟨.inr (.inr ⟨rfl,rfl,b3,show(x.c u.a.toNat).to<_ by omega⟩),fun _=>.inr ⟨b5,fun d=>by have:=d.1;omega⟩⟩
  ·have:=e.2;omega
 ·rename_i e;refine⟨hl.1,fun hk=>?_⟩;rcases hl.2 hk with⟨a,_⟩ | ⟨a,b⟩
  ·exact(e ⟨hk,a⟩).elim
  ·exact .inr ⟨a,b⟩
theorem Snd.half{x:Hp}(h:Snd x)(i k:Nat)(hi:i<x.cells.length)(nd:¬Doomed x i)(hk:k<(x.c i).prs.length):Leads x (resW x ((x.c i).p k).key) False∧Leads x (resW x ((x.c i).p k).val) False:=
 let q:=((h.r4.2 i hi).2 k hk).2 nd
 ⟨h.res q.1,h.res q.2⟩
theorem DoR.sndA{x:Hp}{a b c:Nat}{n:Int}{y:Hp}{cd nm:Int}{k:Nat}(s:Snd x)(ha:a<16)(hb:k≠1→k≠23→b<16)(h23:k=23→b≤64∧c≤4000)(h11:k=11→c≤3)(h12:k=12→c≤1)(hk:k≠1∧k≠9∧k≠18)(h:DoR x a b c n y cd nm k):Snd y:=by
 unfold DoR at h
 split at h
 ·exact absurd rfl hk.1
 ·rw[h.1];exact s.regTo a _ ⟨.inr (.inl ⟨rfl,rfl⟩),fun e=>by cases e⟩
 ·rw[h.1];exact s.regTo a _ ⟨.inl ⟨rfl,rfl,rfl⟩,fun e=>by cases e⟩
 ·rw[h.1];exact s.regTo a _ (s.reg b (hb (by omega) (by omega)))
 ·have b16:=hb (by omega) (by omega);rcases h with h | h | h
  ·rw[h.2.1];exact s
  ·rw[h.2.2.1];exact s
  ·obtain⟨_,_,p3,_,p5⟩:=s.at b b16 h.1;rw[h.2.2.1];exact s.regTo a _ (s.half _ c p3 p5 h.2.1).1
 ·have b16:=hb (by omega) (by omega);rcases h with h | h | h
  ·rw[h.2.1];exact s
  ·rw[h.2.2.1];exact s
  ·obtain⟨_,_,p3,_,p5⟩:=s.at b b16 h.1;rw[h.2.2.1];exact s.regTo a _ (s.half _ c p3 p5 h.2.1).2
 ·have b16:=hb (by omega) (by omega);rcases h with h | h | h
  ·rw[h.2.1];exact s
  ·rw[h.2.2.1];exact s
  ·obtain⟨_,_,p3,p4,p5⟩:=s.at a ha h.1;rw[h.2.2.1];exact s.put _ c p3 p4 p5 h.2.1 _ (s.reg b b16) ⟨x.r b,((x.c (x.at a)).p c).val⟩ (.inl ⟨rfl,rfl⟩)
 ·have b16:=hb (by omega) (by omega);rcases h with h | h | h
  ·rw[h.2.1];exact s
  ·rw[h.2.2.1];exact s
  ·obtain⟨_,_,p3,p4,p5⟩:=s.at a ha h.1;rw[h.2.2.1];exact s.put _ c p3 p4 p5 h.2.1 _ (s.reg b b16) ⟨((x.c (x.at a)).p c).key,x.r b⟩ (.inr ⟨rfl,rfl⟩)
 ·exact absurd rfl hk.2.1
 ·rcases h with h | h
  ·rw[h.2.1];exact s
  ·obtain⟨_,_,p3,p4,p5⟩:=s.at a ha h.1;rw[h.2.1];exact s.short _ c p3 p4
 ·rcases h with h | h
  ·rw[h.2.1];exact s
  ·obtain⟨_,_,p3,p4,p5⟩:=s.at a ha h.1;have:=h11 rfl;rw[h.2.1];exact s.weakT _ p3 p4 c (by omega)
 ·rcases h with h | h
  ·rw[h.2.1];exact s
  ·obtain⟨_,_,p3,p4,p5⟩:=s.at a ha h.1;have:=h12 rfl;rw[h.2.1]
   split
   ·rename_i e;rw[e];exact s.want _ p3 p4 p5
   ·rename_i e;exact s.lastT _ p3 p4 c (.inl (by omega))
 ·rw[h.1];exact s
 ·rw[h.1];exact s
 ·rw[h.1];exact s
 ·rcases h with h | h
  ·rw[h.2.1];exact s
  ·rw[h.2.1];exact s
 ·rcases h with h | h
  ·rw[h.2.1];exact s
  ·rw[h.2.1];exact s
 ·exact absurd rfl hk.2.2
 ·rcases h.2 with h | ⟨i,h⟩
  ·rw[h.2.1];exact s.regTo a _ ⟨.inl ⟨rfl,rfl,rfl⟩,fun e=>by cases e⟩
  ·obtain⟨hi,l2⟩:i<x.cells.length∧(x.c i).last=2:=by
    rcases h.1 with d | ⟨j,e,hj,hl,_⟩
    ·have:=d.1;omega
    ·have e2:i=j:=by omega
     rw[e2];exact⟨hj,hl⟩
   have s1:=speaks_used s.r2 i hi (.inr l2);have nd:¬Doomed x i:=fun d=>(s.r4.2 i hi).1 ⟨d,.inr l2⟩
   have s2:=s.lastT i hi s1 3 (.inr rfl);rw[h.2.1];refine s2.regTo a _ ⟨.inr (.inr ⟨rfl,rfl,by show(0:Int)≤(i:Int);omega,by show(i:Int)<((setcH x i (lastC (x.c i) 3)).cells.length:Nat);rw[setcH_len];omega⟩),fun _=>.inr ?_⟩;show((setcH x i (lastC (x.c i) 3)).c i).st=1∧¬Doomed (setcH x i (lastC (x.c i) 3)) i;unfold Doomed;rw[setcH_c x i _ hi i,if_pos rfl];exact⟨s1,nd⟩
 ·rw[h.1];exact s
 ·rw[h.1];exact s
 ·obtain⟨_,_,k,_,e⟩:=h;rw[e];exact(s.stepH _).itU k
 ·have:=h23 rfl;rw[h.1];exact s.paceTo _ _ (by omega) (by omega)
 ·exact h.2.2.snd s
 ·exact h.elim
theorem settle_used(x:Hp)(H:Nat→Bool):(settleH x H).used=x.used-goneTo x H x.cells.length:=by
 unfold settleH;rw[(dueTo_rest x _ H _).2.1,cutTo_used]
theorem settle_len(x:Hp)(H:Nat→Bool):(settleH x H).cells.length=x.cells.length:=by
 unfold settleH;rw[dueTo_len,cutTo_len]
theorem settle_c(x:Hp)(H:Nat→Bool)(q:Nat)(hq:q<x.cells.length):(settleH x H).c q=stlC x H q:=by
 rw[←stTo_all,stTo_c x H _ (Nat.le_refl _),if_pos hq]
theorem settle_regs(x:Hp)(H:Nat→Bool):(settleH x H).regs=x.regs:=by
 rw[←stTo_all];exact(stTo_rest x H _).2.2.1
theorem HalfIs.nm{x:Hp}{f c:Nat}{y:Hp}{cd nm:Int}{R:Nat→Prop}(h:HalfIs x f c y cd nm R):nm=0:=by
 rcases h with h | h | h
 ·exact h.2.2.2
 ·exact h.2.2.2.2
 ·exact h.2.2.2.2
theorem CellIs.nm{x:Hp}{f:Nat}{y:Hp}{cd nm:Int}{R:Nat→Prop}(h:CellIs x f y cd nm R)(hc:cd≠0)(hR:∀i,R i→cd≠0→nm=0):nm=0:=by
 rcases h with h | h
 ·exact h.2.2.2
 ·exact hR _ h.2 hc
theorem DoR.nm{x:Hp}{a b c:Nat}{n:Int}{y:Hp}{cd nm:Int}{k:Nat}(h:DoR x a b c n y cd nm k)(hc:cd≠0):nm=0:=by
 unfold DoR at h
 split at h
 ·exact h.1
 ·exact absurd h.2.1 hc
 ·exact absurd h.2.1 hc
 ·exact absurd h.2.1 hc
 ·exact h.nm
 ·exact h.nm
 ·exact h.nm
 ·exact h.nm
 ·exact h.nm hc (fun i r _=>r.1)
 ·exact h.nm hc (fun i r q=>absurd r.2.1 q)
 ·exact h.nm hc (fun i r q=>absurd r.2.1 q)
 ·exact h.nm hc (fun i r q=>absurd r.2.1 q)
 ·exact absurd h.2.1 hc
 ·exact absurd h.2.1 hc
 ·rcases h.2 with e | e
  ·exact e.2.2
  ·exact absurd e.2.1 hc
 ·exact h.nm hc (fun i r q=>absurd r.2.1 q)
 ·exact h.nm hc (fun i r q=>absurd r.2.1 q)
 ·exact absurd h.1 hc
 ·exact absurd h.1 hc
 ·exact absurd h.2.1 hc
 ·exact absurd h.2.1 hc
 ·exact absurd h.1 hc
 ·exact absurd h.2.1 hc
 ·exact absurd h.1 hc
 ·exact h.elim
theorem flatA_len(M:List Ak):(M.flatMap fA).length=M.length*5:=flat_len fA 5 (fun _=>rfl) M
end Go.Proofs.YtddkhnclmeikfaaGreat
