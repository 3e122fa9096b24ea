import Derived.Test.YtddkhnclmeikfaaGreatAw
import Derived.Test.YtddkhnclmeikfaaGreatAy
import Derived.Test.YtddkhnclmeikfaaGreatBb
set_option maxRecDepth 100000
set_option maxHeartbeats 4000000
namespace Go.Proofs.YtddkhnclmeikfaaGreat
open Go.RowKit
attribute [local go_sem ↓] Go.wp_at_zero Go.wp_at_succ
def gR(x:Hp)(N:List Nat):List Wd:=x.regs.map (nw x (ordO x N))
def gL(x:Hp)(N:List Nat):List Nd:=(ordO x N).map (nodeOf x (ordO x N) N)
theorem GAns.ext{x:Hp}{B:Nat}{w w':World}{vr vn:Value}(h:GAns x B w vr vn)(e:Ext w w'):GAns x B w' vr vn:=by
 obtain⟨N,O,br,bq,pb,f,oj,h1,h2,h3,h4,h5,h6,h7,h8,h9⟩:=h;exact⟨N,O,br,bq,pb,f,oj,h1,h2,h3,h4,h5.ext e,h6,h7,h8.ext e,h9⟩
theorem GAns.only{S:Nat→Prop}{x:Hp}{B:Nat}{w w':World}{vr vn:Value}(h:GAns x B w vr vn)(e:Only S w w')(hs:∀q,B≤q→¬S q):GAns x B w' vr vn:=by
 obtain⟨N,O,br,bq,pb,f,oj,h1,h2,h3,h4,h5,h6,h7,h8,h9,h10,h11,h12⟩:=h;exact⟨N,O,br,bq,pb,f,oj,h1,h2,h3,h4,h5.only e (hs _ h11),h6,h7,h8.only e (hs _ h12) (fun q hq=>hs _ (h8.p q hq).2.2.1),h9,h10,h11,h12⟩
def GAnsU(x:Hp)(B U:Nat)(w:World)(vr vn:Value):Prop:=∃(N O:List Nat) (br bq:Nat) (pb:Nat→Nat) (f:Nat→Wd) (oj:Nat→Nat),IsW x N∧O=ordO x N∧vr=.slice (some ⟨br,0,none⟩) x.regs.length x.regs.length∧vn=.slice (some ⟨bq,0,none⟩) O.length O.length∧WRow w br x.regs.length x.regs.length f∧(∀q (h:q<x.regs.length),f q=nw x O x.regs[q])∧(∀q (h:q<O.length),oj q=O[q])∧NRow w bq O.length O.length B (fun q=>x.c (oj q)) (np x O) (rkN N oj N.length) pb∧br≠bq∧(∀q,q<O.length→pb q≠br)∧B≤br∧B≤bq∧br<U∧bq<U∧∀q,q<O.length→pb q<U
theorem GAnsU.ext{x:Hp}{B U:Nat}{w w':World}{vr vn:Value}(h:GAnsU x B U w vr vn)(e:Ext w w'):GAnsU x B U w' vr vn:=by
 obtain⟨N,O,br,bq,pb,f,oj,h1,h2,h3,h4,h5,h6,h7,h8,h9⟩:=h;exact⟨N,O,br,bq,pb,f,oj,h1,h2,h3,h4,h5.ext e,h6,h7,h8.ext e,h9⟩
theorem GAnsU.only{S:Nat→Prop}{x:Hp}{B U:Nat}{w w':World}{vr vn:Value}(h:GAnsU x B U w vr vn)(e:Only S w w')(hs:∀q,B≤q→¬S q):GAnsU x B U w' vr vn:=by
 obtain⟨N,O,br,bq,pb,f,oj,h1,h2,h3,h4,h5,h6,h7,h8,h9,h10,h11,h12,h13⟩:=h;exact⟨N,O,br,bq,pb,f,oj,h1,h2,h3,h4,h5.only e (hs _ h11),h6,h7,h8.only e (hs _ h12) (fun q hq=>hs _ (h8.p q hq).2.2.1),h9,h10,h11,h12,h13⟩
def GOwn(x:Hp)(B U:Nat)(w:World)(vr vn:Value)(R:List Wd)(L:List Nd):Prop:=(vr=.slice none 0 0∧vn=.slice none 0 0∧R=[]∧L=[])∨(OkIs x 0∧GAnsU x B U w vr vn∧∃N,IsW x N∧R=gR x N∧L=gL x N)
theorem GOwn.ext{x:Hp}{B U:Nat}{w w':World}{vr vn:Value}{R:List Wd}{L:List Nd}(h:GOwn x B U w vr vn R L)(e:Ext w w'):GOwn x B U w' vr vn R L:=
 h.imp id (fun⟨a,b,c⟩=>⟨a,b.ext e,c⟩)
theorem GOwn.only{S:Nat→Prop}{x:Hp}{B U:Nat}{w w':World}{vr vn:Value}{R:List Wd}{L:List Nd}(h:GOwn x B U w vr vn R L)(e:Only S w w')(hs:∀q,B≤q→¬S q):GOwn x B U w' vr vn R L:=
 h.imp id (fun⟨a,b,c⟩=>⟨a,b.only e hs,c⟩)
def GHd(w:World)(vr vn:Value)(k:Int):Prop:=(vr=.slice none 0 0∧vn=.slice none 0 0∧k=1)∨∃(br nr bq n:Nat) (len pb:Nat→Nat),vr=.slice (some ⟨br,0,none⟩) nr nr∧vn=.slice (some ⟨bq,0,none⟩) n n∧nr≤100∧n≤8000∧(∀q,q<n→len q≤200)∧GMd w br nr bq n len pb (1+3*nr)∧k=Kf len (1+3*nr) n
theorem GHd.ext{w w':World}{vr vn:Value}{k:Int}(h:GHd w vr vn k)(e:Ext w w'):GHd w' vr vn k:=
 h.imp id (fun⟨br,nr,bq,n,len,pb,a,b,c,d,f,g,i⟩=>⟨br,nr,bq,n,len,pb,a,b,c,d,f,g.ext e,i⟩)
theorem GHd.nn{w:World}{vr vn:Value}{k:Int}(h:GHd w vr vn k):0≤k:=by
 rcases h with⟨_,_,rfl⟩ | ⟨br,nr,bq,n,len,pb,a,b,c,d,f,g,rfl⟩
 ·omega
 ·exact(Kf_bd (by omega) n f).1
theorem ext_drawn{a w:World}(h:Ext a w)(n:Nat):Ext a (w.drewN n):=⟨h.os,h.tape,h.output,h.size,fun k hk=>h.block k hk⟩
theorem set_self(w:World)(p:Addr)(v:Value)(h:w.cell? p=some v):w.setCell p v=w:=by
 have key:(w.setCell p v).heap=w.heap:=by
  unfold World.cell? at h;unfold World.setCell;apply Array.ext_getElem?;intro i;rw[Array.getElem?_modify];by_cases e:p.block=i
  ·subst e;rw[if_pos rfl];cases hh:w.heap[p.block]? with
   | none=>rfl
   | some o=>
    rw[hh] at h;cases o with
    | cells c t f=>
     simp only at h;by_cases hs:p.spot.isSome=true
     ·simp [hs] at h
     ·simp only [hs] at h;simp only [Option.map_some,hs]
      congr 1
      have hc:c.setIfInBounds p.off v=c:=by
       apply Array.ext_getElem?;intro k;rw[Array.getElem?_setIfInBounds];by_cases e2:p.off=k
       ·subst e2;rw[if_pos rfl];have:=(Array.getElem?_eq_some_iff.1 h).1;rw[if_pos this];exact h.symm
       ·rw[if_neg e2]
      simp [hc]
    | _=>simp at h
  ·rw[if_neg e]
 unfold World.setCell at key ⊢;simp only at key;rw[key]
theorem wayOf_in(k:Nat)(a b c n:Int)(w:World)(h1:1≤k)(h2:k≤24)(h3:(n != 0)=false∨((n != 0)=true∧((k:Int) != 2)=false))(r:Bool)(hr:(decide (0≤a∧a≤actA k) && (decide (0≤b∧b≤actB k) && decide (0≤c∧c≤actC k)))=r):Calls Tryz.prog 285 #[actV k a b c n] w fun e w'=>e=.returned (.tuple #[.agg #[iv (actA k),iv (actB k),iv (actC k),.func (.func (wayF k)) #[] #[]],.bool r])∧Ext w w':=by
 have QO:=hide (fun W=>within_r k 1 24 true (by simp [withinB];omega) W);have LL:=hide (wayL_at k h1 h2);have k0:(0:Int)≤(k:Int):=by omega
 have k1:(k:Int)<25:=by omega
 obtain⟨am,ea⟩:∃v,v=actA k:=⟨_,rfl⟩;obtain⟨bm,eb⟩:∃v,v=actB k:=⟨_,rfl⟩;obtain⟨cm,ec⟩:∃v,v=actC k:=⟨_,rfl⟩;obtain⟨fm,ef⟩:∃v,v=wayF k:=⟨_,rfl⟩;rw[←ea,←eb,←ec,←ef] at LL;rw[←ea,←eb,←ec] at hr;rw[←ea,←eb,←ec,←ef];have HR:=hide hr;clear ea eb ec ef hr h1 h2;go_enter Tryz.func285,Tryz.ntmps285;go_wp2_with fail;refine store_row _ _ _ _ _ wayL (by kernel_rfl) (heap_third _ _ _ _) (by kernel_rfl) (by kernel_rfl) ?_;intro W4 hW4;have T:=TabAt.of _ _ _ _ _ _ _ _ _ _ _ hW4;clear hW4;obtain⟨a0,a1,a2,a3,a4,v0,v1,v2,v3,fz,tt,ex⟩:=T;have t0:=(tt (k*4)).trans (unhide LL).1;have t1:=(tt (k*4+1)).trans (unhide LL).2.1;have t2:=(tt (k*4+2)).trans (unhide LL).2.2.1;have t3:=(tt (k*4+3)).trans (unhide LL).2.2.2;have X:=hide ex;clear tt ex LL;simp only [Oper.upon];rcases h3 with h3 | h3
 ·have q2:=h3;clear h3;go_wp2_with (go_at_call 78;refine(unhide QO _).mono ?_;rintro e w2 ⟨rfl,hw2⟩;rw[hw2];clear hw2 w2);obtain⟨W5,hW5⟩:∃W,W=((((W4.setCell ⟨w.heap.size+1,0,none⟩ (iv am)).setCell ⟨w.heap.size+1,1,none⟩ (iv bm)).setCell ⟨w.heap.size+1,2,none⟩ (iv cm)).setCell ⟨w.heap.size+1,3,none⟩ (.func (.func fm) #[] #[])):=⟨_,rfl⟩;have d0:W5.cell? ⟨w.heap.size+1,0,none⟩=some (iv am):=by rw[hW5];simp [go_sem,v0]
  have d1:W5.cell? ⟨w.heap.size+1,1,none⟩=some (iv bm):=by rw[hW5];simp [go_sem,v1]
  have d2:W5.cell? ⟨w.heap.size+1,2,none⟩=some (iv cm):=by rw[hW5];simp [go_sem,v2]
  have d3:W5.cell? ⟨w.heap.size+1,3,none⟩=some (.func (.func fm) #[] #[]):=by rw[hW5];simp [go_sem,v3]
  have b1:W5.cell? ⟨w.heap.size,1,none⟩=some (iv a):=by rw[hW5];simp [go_sem,a1]
  have b2:W5.cell? ⟨w.heap.size,2,none⟩=some (iv b):=by rw[hW5];simp [go_sem,a2]
  have b3:W5.cell? ⟨w.heap.size,3,none⟩=some (iv c):=by rw[hW5];simp [go_sem,a3]
  have f5:∀j,W5.frozen? ⟨w.heap.size+1,j,none⟩=false:=fun j=>by rw[hW5];simp [go_sem,fz]
  have X5:=hide (show Ext w W5 by rw[hW5];exact((((unhide X).setCell (p:=⟨w.heap.size+1,0,none⟩) (Nat.le_succ _) _).setCell (p:=⟨w.heap.size+1,1,none⟩) (Nat.le_succ _) _).setCell (p:=⟨w.heap.size+1,2,none⟩) (Nat.le_succ _) _).setCell (p:=⟨w.heap.size+1,3,none⟩) (Nat.le_succ _) _);rw[←hW5];clear hW5 a0 a1 a2 a3 a4 v0 v1 v2 v3 fz t0 t1 t2 t3 X
  have SS:=hide (show ∀m,((((W5.drewN m).setCell ⟨w.heap.size+1,0,none⟩ (.int .i64 am)).setCell ⟨w.heap.size+1,1,none⟩ (.int .i64 bm)).setCell ⟨w.heap.size+1,2,none⟩ (.int .i64 cm)).setCell ⟨w.heap.size+1,3,none⟩ (.func (.func fm) #[] #[])=W5.drewN m from fun m=>by
   have k:=ext_drawn (Ext.refl W5) m;rw[set_self _ _ _ (k.keep d0),set_self _ _ _ (k.keep d1),set_self _ _ _ (k.keep d2),set_self _ _ _ (k.keep d3)])
  cases qa:withinB a 0 am
  ·have QA:=hide (fun W=>within_r a 0 am false qa W);have ER:=hide (show false=r by rw[←unhide HR];have e:decide (0≤a∧a≤am)=false:=qa;rw[e];rfl);refine wp_region_quiet_lit (by kernel_rfl) (by kernel_rfl) ?_
   repeat (quiet_step (first | (go_at_call_of 78 (a);exact Calls.quiet_of_same (unhide QA _))))
   refine wpQuiet_step (fun K hK=>?_)
   go_simp
   refine⟨⟨undef,fun m=>⟨unhide SS m,rfl⟩⟩,hK _ ?_⟩;clear hK K
   repeat (quiet_step (fail))
   refine wpQuiet_nil ?_;rintro _ ⟨nq,rfl⟩;go_wp2_with fail;refine bodyPost_ret (by rw[results_cell_tmp rfl];simp [go_sem,loadVar,d0,d1,d2,d3];rfl) rfl ?_;exact⟨by rw[←unhide ER],ext_drawn (unhide X5) _⟩
  ·have QA:=hide (fun W=>within_r a 0 am true qa W);cases qb:withinB b 0 bm
   ·have QB:=hide (fun W=>within_r b 0 bm false qb W);have ER:=hide (show false=r by rw[←unhide HR];have e1:decide (0≤a∧a≤am)=true:=qa;have e:decide (0≤b∧b≤bm)=false:=qb;rw[e1,e];rfl);refine wp_region_quiet_lit (by kernel_rfl) (by kernel_rfl) ?_
    repeat (quiet_step (first | (go_at_call_of 78 (a);exact Calls.quiet_of_same (unhide QA _)) | (go_at_call_of 78 (b);exact Calls.quiet_of_same (unhide QB _))))
    refine wpQuiet_step (fun K hK=>?_)
    go_simp
    refine⟨⟨undef,fun m=>⟨unhide SS m,rfl⟩⟩,hK _ ?_⟩;clear hK K
    repeat (quiet_step (fail))
    refine wpQuiet_nil ?_;rintro _ ⟨nq,rfl⟩;go_wp2_with fail;refine bodyPost_ret (by rw[results_cell_tmp rfl];simp [go_sem,loadVar,d0,d1,d2,d3];rfl) rfl ?_;exact⟨by rw[←unhide ER],ext_drawn (unhide X5) _⟩
   ·have QB:=hide (fun W=>within_r b 0 bm true qb W);have QC:=hide (fun W=>within_any c 0 cm W);have ER:=hide (show withinB c 0 cm=r by rw[←unhide HR];have e1:decide (0≤a∧a≤am)=true:=qa;have e:decide (0≤b∧b≤bm)=true:=qb;rw[e1,e];rfl);refine wp_region_quiet_lit (by kernel_rfl) (by kernel_rfl) ?_
    repeat (quiet_step (first | (go_at_call_of 78 (a);exact Calls.quiet_of_same (unhide QA _)) | (go_at_call_of 78 (b);exact Calls.quiet_of_same (unhide QB _)) | (go_at_call_of 78 (c);exact Calls.quiet_of_same (unhide QC _))))
    refine wpQuiet_step (fun K hK=>?_)
    go_simp
    refine⟨⟨undef,fun m=>⟨unhide SS m,rfl⟩⟩,hK _ ?_⟩;clear hK K
    repeat (quiet_step (fail))
    refine wpQuiet_nil ?_;rintro _ ⟨nq,rfl⟩;go_wp2_with fail;refine bodyPost_ret (by rw[results_cell_tmp rfl];simp [go_sem,loadVar,d0,d1,d2,d3];rfl) rfl ?_;exact⟨by rw[←unhide ER],ext_drawn (unhide X5) _⟩
 ·have q2:=h3.1;have q1:=h3.2;clear h3;go_wp2_with (go_at_call 78;refine(unhide QO _).mono ?_;rintro e w2 ⟨rfl,hw2⟩;rw[hw2];clear hw2 w2);obtain⟨W5,hW5⟩:∃W,W=((((W4.setCell ⟨w.heap.size+1,0,none⟩ (iv am)).setCell ⟨w.heap.size+1,1,none⟩ (iv bm)).setCell ⟨w.heap.size+1,2,none⟩ (iv cm)).setCell ⟨w.heap.size+1,3,none⟩ (.func (.func fm) #[] #[])):=⟨_,rfl⟩;have d0:W5.cell? ⟨w.heap.size+1,0,none⟩=some (iv am):=by rw[hW5];simp [go_sem,v0]
  have d1:W5.cell? ⟨w.heap.size+1,1,none⟩=some (iv bm):=by rw[hW5];simp [go_sem,v1]
  have d2:W5.cell? ⟨w.heap.size+1,2,none⟩=some (iv cm):=by rw[hW5];simp [go_sem,v2]
  have d3:W5.cell? ⟨w.heap.size+1,3,none⟩=some (.func (.func fm) #[] #[]):=by rw[hW5];simp [go_sem,v3]
  have b1:W5.cell? ⟨w.heap.size,1,none⟩=some (iv a):=by rw[hW5];simp [go_sem,a1]
  have b2:W5.cell? ⟨w.heap.size,2,none⟩=some (iv b):=by rw[hW5];simp [go_sem,a2]
  have b3:W5.cell? ⟨w.heap.size,3,none⟩=some (iv c):=by rw[hW5];simp [go_sem,a3]
  have f5:∀j,W5.frozen? ⟨w.heap.size+1,j,none⟩=false:=fun j=>by rw[hW5];simp [go_sem,fz]
  have X5:=hide (show Ext w W5 by rw[hW5];exact((((unhide X).setCell (p:=⟨w.heap.size+1,0,none⟩) (Nat.le_succ _) _).setCell (p:=⟨w.heap.size+1,1,none⟩) (Nat.le_succ _) _).setCell (p:=⟨w.heap.size+1,2,none⟩) (Nat.le_succ _) _).setCell (p:=⟨w.heap.size+1,3,none⟩) (Nat.le_succ _) _);rw[←hW5];clear hW5 a0 a1 a2 a3 a4 v0 v1 v2 v3 fz t0 t1 t2 t3 X
  have SS:=hide (show ∀m,((((W5.drewN m).setCell ⟨w.heap.size+1,0,none⟩ (.int .i64 am)).setCell ⟨w.heap.size+1,1,none⟩ (.int .i64 bm)).setCell ⟨w.heap.size+1,2,none⟩ (.int .i64 cm)).setCell ⟨w.heap.size+1,3,none⟩ (.func (.func fm) #[] #[])=W5.drewN m from fun m=>by
   have k:=ext_drawn (Ext.refl W5) m;rw[set_self _ _ _ (k.keep d0),set_self _ _ _ (k.keep d1),set_self _ _ _ (k.keep d2),set_self _ _ _ (k.keep d3)])
  cases qa:withinB a 0 am
  ·have QA:=hide (fun W=>within_r a 0 am false qa W);have ER:=hide (show false=r by rw[←unhide HR];have e:decide (0≤a∧a≤am)=false:=qa;rw[e];rfl);refine wp_region_quiet_lit (by kernel_rfl) (by kernel_rfl) ?_
   repeat (quiet_step (first | (go_at_call_of 78 (a);exact Calls.quiet_of_same (unhide QA _))))
   refine wpQuiet_step (fun K hK=>?_)
   go_simp
   refine⟨⟨undef,fun m=>⟨unhide SS m,rfl⟩⟩,hK _ ?_⟩;clear hK K
   repeat (quiet_step (fail))
   refine wpQuiet_nil ?_;rintro _ ⟨nq,rfl⟩;go_wp2_with fail;refine bodyPost_ret (by rw[results_cell_tmp rfl];simp [go_sem,loadVar,d0,d1,d2,d3];rfl) rfl ?_;exact⟨by rw[←unhide ER],ext_drawn (unhide X5) _⟩
  ·have QA:=hide (fun W=>within_r a 0 am true qa W);cases qb:withinB b 0 bm
   ·have QB:=hide (fun W=>within_r b 0 bm false qb W);have ER:=hide (show false=r by rw[←unhide HR];have e1:decide (0≤a∧a≤am)=true:=qa;have e:decide (0≤b∧b≤bm)=false:=qb;rw[e1,e];rfl);refine wp_region_quiet_lit (by kernel_rfl) (by kernel_rfl) ?_
    repeat (quiet_step (first | (go_at_call_of 78 (a);exact Calls.quiet_of_same (unhide QA _)) | (go_at_call_of 78 (b);exact Calls.quiet_of_same (unhide QB _))))
    refine wpQuiet_step (fun K hK=>?_)
    go_simp
    refine⟨⟨undef,fun m=>⟨unhide SS m,rfl⟩⟩,hK _ ?_⟩;clear hK K
    repeat (quiet_step (fail))
    refine wpQuiet_nil ?_;rintro _ ⟨nq,rfl⟩;go_wp2_with fail;refine bodyPost_ret (by rw[results_cell_tmp rfl];simp [go_sem,loadVar,d0,d1,d2,d3];rfl) rfl ?_;exact⟨by rw[←unhide ER],ext_drawn (unhide X5) _⟩
   ·have QB:=hide (fun W=>within_r b 0 bm true qb W);have QC:=hide (fun W=>within_any c 0 cm W);have ER:=hide (show withinB c 0 cm=r by rw[←unhide HR];have e1:decide (0≤a∧a≤am)=true:=qa;have e:decide (0≤b∧b≤bm)=true:=qb;rw[e1,e];rfl);refine wp_region_quiet_lit (by kernel_rfl) (by kernel_rfl) ?_
    repeat (quiet_step (first | (go_at_call_of 78 (a);exact Calls.quiet_of_same (unhide QA _)) | (go_at_call_of 78 (b);exact Calls.quiet_of_same (unhide QB _)) | (go_at_call_of 78 (c);exact Calls.quiet_of_same (unhide QC _))))
    refine wpQuiet_step (fun K hK=>?_)
    go_simp
    refine⟨⟨undef,fun m=>⟨unhide SS m,rfl⟩⟩,hK _ ?_⟩;clear hK K
    repeat (quiet_step (fail))
    refine wpQuiet_nil ?_;rintro _ ⟨nq,rfl⟩;go_wp2_with fail;refine bodyPost_ret (by rw[results_cell_tmp rfl];simp [go_sem,loadVar,d0,d1,d2,d3];rfl) rfl ?_;exact⟨by rw[←unhide ER],ext_drawn (unhide X5) _⟩
def fltC(c:Cl)(f:Pr→Bool):Cl:={ c with prs:=c.prs.filter f }
def fltH(x:Hp)(i:Nat)(f:Pr→Bool)(g:Nat)(t:Int):Hp:={ x with cells:=x.cells.set i (fltC (x.c i) f),used:=x.used-g,sub:=t }
theorem fltH_c(x:Hp)(i:Nat)(f:Pr→Bool)(g:Nat)(t:Int)(hi:i<x.cells.length)(q:Nat):(fltH x i f g t).c q=if q=i then fltC (x.c i) f else x.c q:=Hp.c_set x i (fltC (x.c i) f) hi q
theorem flt_len(f:Pr→Bool)(l:List Pr)(n:Nat):((l.take n).filter f).length≤(l.filter f).length∧((l.take n).filter f).length≤n:=by
 constructor
 ·have e:(l.filter f)=((l.take n).filter f)++((l.drop n).filter f):=by rw[←List.filter_append,List.take_append_drop]
  rw[e,List.length_append];omega
 ·have:=List.length_filter_le f (l.take n);rw[List.length_take] at this;omega
theorem Thin.flt{x:Hp}(h:Snd x)(i:Nat)(hi:i<x.cells.length)(f:Pr→Bool)(g:Nat)(t:Int)(hg:((x.c i).prs.filter f).length+g=(x.c i).prs.length)(ht:t=if scanI x=(i:Int) then ((((x.c i).prs.take x.sub.toNat).filter f).length:Int) else x.sub):Thin x (fltH x i f g t) where
 hl:=by simp [fltH]
 rest:=RestH.refl _
 c:=fun q=>by rw[fltH_c x i f g t hi q];split;(· rename_i t;rw[t];exact⟨rfl,rfl,rfl,rfl,rfl⟩);(· exact⟨rfl,rfl,rfl,rfl,rfl⟩)
 wk:=fun q=>by rw[fltH_c x i f g t hi q];split;(· rename_i t;rw[t];exact .inl rfl);(· exact .inl rfl)
 la:=fun q=>by rw[fltH_c x i f g t hi q];split;(· rename_i t;rw[t];exact .inl rfl);(· exact .inl rfl)
 sp:=fun q=>by rw[fltH_c x i f g t hi q];split;(· rename_i t;rw[t];exact id);(· exact id)
 p:=fun q hq k hk=>by
  rw[fltH_c x i f g t hi q] at hk ⊢;by_cases e:q=i
  ·rw[if_pos e] at hk ⊢;rw[e];obtain⟨j,h1,h2,h3⟩:=filter_at f Pr0 (x.c i).prs k hk;refine⟨j,h1,h2,fun hs=>?_⟩;show(k:Int)<t↔_;rw[ht,if_pos hs];have:=h3 x.sub.toNat;have:=h.r1.sub;omega
  ·rw[if_neg e] at hk ⊢;refine⟨k,hk,rfl,fun hs=>?_⟩;show(k:Int)<t↔_;rw[ht,if_neg (fun u=>by omega)]
 le:=fun q hq=>by
  rw[fltH_c x i f g t hi q];split
  ·rename_i e;rw[e];exact List.length_filter_le _ _
  ·exact Nat.le_refl _
 us:=by
  have u:=units_set2 x.cells i (fltC (x.c i) f) hi;rw[Hp.c_eq x i hi] at u;have h3:=h.r3.1;show x.used-(g:Int)=(units (x.cells.set i (fltC (x.c i) f)):Nat);by_cases s1:(x.c i).st=1
  ·have e1:unitsOf (x.c i)=1+(x.c i).prs.length:=by unfold unitsOf;rw[if_pos s1]
   have e2:unitsOf (fltC (x.c i) f)=1+((x.c i).prs.filter f).length:=by
    unfold unitsOf;show(if (x.c i).st=1 then 1+((x.c i).prs.filter f).length else 0)=_;rw[if_pos s1]
   rw[e1,e2] at u;omega
  ·have e1:unitsOf (x.c i)=0:=by unfold unitsOf;rw[if_neg s1]
   have e2:unitsOf (fltC (x.c i) f)=0:=by
    unfold unitsOf;show(if (x.c i).st=1 then 1+((x.c i).prs.filter f).length else 0)=_;rw[if_neg s1]
   have e3:(x.c i).prs.length=0:=by
    rcases h.r2.1 i hi with z | z | z
    ·exact z.2.1.2.2.2.2.2
    ·exact z.2.1.2.2.2.2.2
    ·exact absurd z.1 s1
   rw[e1,e2] at u;omega
 ul:=by show x.used-(g:Int)≤x.used;omega
 s0:=by
  have:=h.r1.sub;have:=(flt_len f (x.c i).prs x.sub.toNat).2;show 0≤t∧t≤x.sub;rw[ht]
  split <;> omega
 s1:=fun q hq hs=>by
  have k:=h.scan q hs;show t≤_;rw[fltH_c x i f g t hi q,ht];by_cases e:q=i
  ·rw[if_pos e,if_pos (by rw[←e];exact hs)];have:=(flt_len f (x.c i).prs x.sub.toNat).1;show _≤((((x.c i).prs.filter f).length:Nat):Int);omega
  ·rw[if_neg e,if_neg (fun u=>by omega)];exact k
structure HRow(B U:Nat)(w:World)(x:Hp)(br kr bc kc bg kg:Nat)(pb:Nat→Nat)(pa:Nat→Option Addr)(pk:Nat→Nat):Prop where
 r:SlW w (.slice (some ⟨br,0,none⟩) x.regs.length kr) x.regs
 s:∀q,q<x.cells.length→w.cell? ⟨bc,q*8,none⟩=some (iv (x.c q).st)∧w.cell? ⟨bc,q*8+1,none⟩=some (iv (x.c q).kind)∧w.cell? ⟨bc,q*8+2,none⟩=some (iv (x.c q).weak)∧w.cell? ⟨bc,q*8+3,none⟩=some (iv (x.c q).last)∧w.cell? ⟨bc,q*8+4,none⟩=some (iv (x.c q).born)∧w.cell? ⟨bc,q*8+5,none⟩=some (iv (x.c q).color)∧w.cell? ⟨bc,q*8+6,none⟩=some (iv (x.c q).to)
 p:∀q,q<x.cells.length→SlP w (.slice (pa q) (x.c q).prs.length (pk q)) (x.c q).prs
 g:SlI w (.slice (some ⟨bg,0,none⟩) x.gray.length kg) x.gray
 p7:∀q,q<x.cells.length→w.cell? ⟨bc,q*8+7,none⟩=some (.slice (pa q) (x.c q).prs.length (pk q))
 pl:∀q,q<x.cells.length→0<(x.c q).prs.length→pa q=some ⟨pb q,0,none⟩∧Nf1 (pb q) w∧(pb q≠br∧pb q≠bc∧pb q≠bg)∧B≤pb q∧pb q<U
 nr:Nf1 br w
 nc:Nf1 bc w
 ng:Nf1 bg w
 d:br≠bc∧br≠bg∧bc≠bg
 dp:∀q q',q<x.cells.length→q'<x.cells.length→q≠q'→0<(x.c q).prs.length→0<(x.c q').prs.length→pb q≠pb q'
 b:(B≤br∧br<U)∧(B≤bc∧bc<U)∧(B≤bg∧bg<U)
 l:x.regs.length≤100∧x.cells.length≤8000∧x.gray.length≤8000∧∀q,q<x.cells.length→(x.c q).prs.length≤200
 k:∀q,q<x.cells.length→(x.c q).prs.length≤pk q
theorem nf1_only{S:Nat→Prop}{w w':World}{B:Nat}(h:Nf1 B w)(k:Only S w w')(hs:¬S B):Nf1 B w':=⟨Nat.lt_of_lt_of_le h.1 k.size,fun j=>by rw[k.frozen h.1 hs];exact h.2 j⟩
theorem HRow.ext{B U:Nat}{w w':World}{x:Hp}{br kr bc kc bg kg:Nat}{pb:Nat→Nat}{pa:Nat→Option Addr}{pk:Nat→Nat}(h:HRow B U w x br kr bc kc bg kg pb pa pk)(e:Ext w w'):HRow B U w' x br kr bc kc bg kg pb pa pk:=
 ⟨SlW.ext e h.r,fun q hq=>let ⟨a0,a1,a2,a3,a4,a5,a6⟩:=h.s q hq;⟨e.keep a0,e.keep a1,e.keep a2,e.keep a3,e.keep a4,e.keep a5,e.keep a6⟩,fun q hq=>SlP.ext e (h.p q hq),SlI.ext e h.g,fun q hq=>e.keep (h.p7 q hq),fun q hq hl=>let ⟨a,b,c⟩:=h.pl q hq hl;⟨a,b.ext e,c⟩,h.nr.ext e,h.nc.ext e,h.ng.ext e,h.d,h.dp,h.b,h.l,h.k⟩
theorem HRow.only{S:Nat→Prop}{B U:Nat}{w w':World}{x:Hp}{br kr bc kc bg kg:Nat}{pb:Nat→Nat}{pa:Nat→Option Addr}{pk:Nat→Nat}(h:HRow B U w x br kr bc kc bg kg pb pa pk)(e:Only S w w')(hs:∀q,B≤q→q<U→¬S q):HRow B U w' x br kr bc kc bg kg pb pa pk:=by
 have nr:=hs _ h.b.1.1 h.b.1.2;have nc:=hs _ h.b.2.1.1 h.b.2.1.2;have ng:=hs _ h.b.2.2.1 h.b.2.2.2;refine⟨SlOf.mono2 h.r fun b o n c z o' y hy=>?_,fun q hq=>let ⟨a0,a1,a2,a3,a4,a5,a6⟩:=h.s q hq;⟨e.keep nc a0,e.keep nc a1,e.keep nc a2,e.keep nc a3,e.keep nc a4,e.keep nc a5,e.keep nc a6⟩,fun q hq=>?_,SlOf.mono2 h.g fun b o n c z o' y hy=>?_,fun q hq=>e.keep nc (h.p7 q hq),fun q hq hl=>let ⟨a,b,c⟩:=h.pl q hq hl;⟨a,nf1_only b e (hs _ c.2.1 c.2.2),c⟩,nf1_only h.nr e nr,nf1_only h.nc e nc,nf1_only h.ng e ng,h.d,h.dp,h.b,h.l,h.k⟩
 ·simp only [Value.slice.injEq,Option.some.injEq,Addr.mk.injEq] at z;obtain⟨⟨rfl,_,_⟩,_,_⟩:=z;exact⟨e.keep nr hy.1,e.keep nr hy.2.1,e.keep nr hy.2.2⟩
 ·rcases Nat.eq_zero_or_pos (x.c q).prs.length with z | z
  ·have z2:(x.c q).prs=[]:=List.eq_nil_of_length_eq_zero z;rw[z2];exact SlOf.nil
  ·obtain⟨a,_,c⟩:=h.pl q hq z;refine slP_only e (fun b o n k e2=>?_) (h.p q hq);rw[a] at e2;simp only [Value.slice.injEq,Option.some.injEq,Addr.mk.injEq] at e2;rw[←e2.1.1];exact hs _ c.2.1 c.2.2
 ·simp only [Value.slice.injEq,Option.some.injEq,Addr.mk.injEq] at z;obtain⟨⟨rfl,_,_⟩,_,_⟩:=z;exact e.keep ng hy
def HMd(w:World)(br nr bc n bg ng:Nat)(len pb:Nat→Nat)(pa:Nat→Option Addr)(pk:Nat→Nat):Prop:=(∀j,j<3*nr→w.cell? ⟨br,0+j,none⟩=some (iv (1+j)))∧CMk w bc n len pb pa pk (Kc len (1+3*nr)) n∧∀j,j<ng→w.cell? ⟨bg,0+j,none⟩=some (iv (Kc len (1+3*nr) n+j))
theorem HMd.ext{w w':World}{br nr bc n bg ng:Nat}{len pb:Nat→Nat}{pa:Nat→Option Addr}{pk:Nat→Nat}(h:HMd w br nr bc n bg ng len pb pa pk)(e:Ext w w'):HMd w' br nr bc n bg ng len pb pa pk:=⟨fun j hj=>e.keep (h.1 j hj),h.2.1.ext e,fun j hj=>e.keep (h.2.2 j hj)⟩
theorem answered_fine(n:Int)(w:World):
  Calls Tryz.prog 281 #[iv n,.nilIface] w fun e w'=>e=.returned (ansV 0 n)∧Ext w w':=by
 go_enter Tryz.func281,Tryz.ntmps281;go_wp2_with fail;refine(as_none _ _).mono ?_;rintro e w1 ⟨rfl,rfl⟩;go_wp2_with fail;refine bodyPost_ret (v:=ansV 0 n) (by simp [results,Tryz.results281,go_sem]) rfl ⟨rfl,?_⟩
 repeat (first | exact Ext.refl _ | refine Ext.alloc ?_ _ | refine Ext.setCell ?_ (by first | exact Nat.le_refl _ | (show w.heap.size≤w.heap.size+1;omega)) _)
theorem act_bounds{op a b c n:Int}(h:actOkB op a b c n=true):(1≤op∧op≤24)∧(0≤a∧a≤actA op)∧(0≤b∧b≤actB op)∧(0≤c∧c≤actC op):=by
 unfold actOkB at h;simp only [Bool.and_eq_true,decide_eq_true_eq] at h;exact⟨h.1.1,h.2.1,h.2.2.1,h.2.2.2⟩
theorem places_any(b bn hd n:Nat)(G:List Int)(w:World)(h:RAt w b bn hd G)(hn:∀i,i<n→w.cell? ⟨bn,i*2,none⟩=some (iv i))(hG:∀g,g∈G→0≤g∧g<n):
  Calls Tryz.prog 100 #[.pointer (some ⟨b,15,none⟩)] w fun e w'=>e=.returned (.slice (some ⟨w.heap.size,0,none⟩) G.length G.length)∧SlI w' (.slice (some ⟨w.heap.size,0,none⟩) G.length G.length) G∧Nf1 w.heap.size w'∧Ext w w':=by
 have r1:=h.r1;have hl:=h.hl;have H:=hide h;have HN:=hide hn;have HG:=hide hG;obtain⟨z,hmk⟩:=mkInts G.length (by omega) w;clear h hn hG;go_enter Tryz.func100,Tryz.ntmps100;go_wp2_with fail;go_loopw [12] (fun i wr=>∃(k:Nat),k≤G.length∧i=.int .i64 k∧Hid ((∀j (hj:j<G.length),j<k→InAt wr w.heap.size (0+j*1) G[j])∧(∀j,j<G.length*1→Open wr w.heap.size j)∧Ext w wr∧Nf1 w.heap.size wr)) (fun i _=>G.length-(intOf i).toNat)
 case atStart=>exact⟨0,Nat.zero_le _,rfl,(fun j _ h=>by omega),(fun j hj=>made_open _ _ _ _ _ (by omega)),(Ext.refl w).alloc _,Nf1.made _ _ _ _⟩
 case round=>
  clear hmk r1;obtain⟨k,hk,rfl,hinv⟩:=hrel;by_cases hlt:k<G.length
  ·have hx:=(unhide hinv).2.2.1;obtain⟨m,hm⟩:∃m,m=(hd+k) % 4000:=⟨_,rfl⟩;have hm4:m<4000:=by rw[hm];exact Nat.mod_lt _ (by omega)
   have hr:((hd:Int)+(k:Int)).tmod 4000=(m:Int):=by have:=ring_idx (hd+k);rw[←hm] at this;simpa using this
   have m0:(0:Int)≤(m:Int):=by omega
   have m1:(m:Int)<4000:=by omega
   have hg:=unhide HG G[k] (List.getElem_mem hlt);obtain⟨j,hj⟩:∃j:Nat,G[k]=(j:Int):=⟨G[k].toNat,by omega⟩;have hjn:j<n:=by omega
   have c0:=hx.keep (unhide H).r0;have h0:=(unhide H).h0;have cm:=hx.keep ((unhide H).rg k hlt);rw[←hm,hj] at cm;have cm:wr.cell? ⟨b,15+m,none⟩=some (.pointer (some ⟨bn,j*2,none⟩)):=cm;have cj:=hx.keep (unhide HN j hjn);have R:=hide (ints_step (w:=w) (wr:=wr) (xs:=G) (k:=k) hlt (unhide hinv).1 (unhide hinv).2.1 hx (unhide hinv).2.2.2);rw[hj] at R;obtain⟨⟨u,cu⟩,fu⟩:=(unhide hinv).2.1 k (by omega);have k0:(0:Int)≤(k:Int):=by omega
   have k1:(k:Int)<(G.length:Int):=by omega
   have nb1:¬w.heap.size=b:=fun e=>by have:=cell_lt (unhide H).r0;simp only at this;omega
   have nb2:¬b=w.heap.size:=fun e=>nb1 e.symm
   clear hg hj hm;go_wp2_with fail
   go_region
   all_goals
    go_wp2_with fail;go_roundw
    case rel=>
     have d:=(Ext.refl (wr.setCell ⟨w.heap.size,k,none⟩ (iv j))).drew;exact⟨k+1,by omega,by go_num,fun j hj hk=>((unhide R).1 j hj hk).ext d,fun j hj=>((unhide R).2.1 j hj).ext d,(unhide R).2.2.1.drew,(unhide R).2.2.2.ext d⟩
    case measure=>simp [intOf];omega
  ·have hk2:k=G.length:=by omega
   have HM:=hide (show SlI wr (.slice (some ⟨w.heap.size,0,none⟩) G.length G.length) G from⟨_,_,rfl,by omega,fun i hi=>⟨_,_,rfl,(unhide hinv).1 i hi (by omega)⟩⟩);clear hk2;go_wp2_with fail;go_ret;exact⟨rfl,unhide HM,(unhide hinv).2.2.2,(unhide hinv).2.2.1⟩
theorem Only.setNew{S:Nat→Prop}{a w:World}(h:Only S a w){p:Addr}(hp:a.heap.size≤p.block)(u:Value):Only S a (w.setCell p u):=
 ⟨h.os,h.tape,h.output,by have:=h.size;simpa [World.setCell] using this,fun k hk hs=>(Below.heap_setCell _ _ _ _ (by omega)).trans (h.block k hk hs)⟩
structure Tdl(w1 wr:World)(x:Hp)(t bN:Nat)(vr vc vg:Value)(pa:Nat→Option Addr)(pk:Nat→Nat)(k:Nat):Prop where
 bx:HBox wr t x vr vc vg
 s:∀q,q<x.cells.length→q<k→S7 wr bN (q*8) (x.c q)∧wr.cell? ⟨bN,q*8+7,none⟩=some (.slice (pa q) (x.c q).prs.length (pk q))
 o:∀j,j<x.cells.length*8→Open wr bN j
 nf:Nf1 bN wr
 on:Only (fun q=>q=t) w1 wr
 lt:t<w1.heap.size∧w1.heap.size≤bN
theorem Tdl.step{w1 wr:World}{x:Hp}{t bN:Nat}{vr vc vg:Value}{pa:Nat→Option Addr}{pk:Nat→Nat}{k:Nat}(h:Tdl w1 wr x t bN vr vc vg pa pk k)(hk:k<x.cells.length):
  Tdl w1 ((((((((wr.setCell ⟨bN,k*8,none⟩ (iv (x.c k).st)).setCell ⟨bN,k*8+1,none⟩ (iv (x.c k).kind)).setCell ⟨bN,k*8+2,none⟩ (iv (x.c k).weak)).setCell ⟨bN,k*8+3,none⟩ (iv (x.c k).last)).setCell ⟨bN,k*8+4,none⟩ (iv (x.c k).born)).setCell ⟨bN,k*8+5,none⟩ (iv (x.c k).color)).setCell ⟨bN,k*8+6,none⟩ (iv (x.c k).to)).setCell ⟨bN,k*8+7,none⟩ (.slice (pa k) (x.c k).prs.length (pk k))).drew x t bN vr vc vg pa pk (k+1):=by
 have hl:=h.lt;have o0:Open wr bN (k*8):=h.o (k*8) (by omega);have o1:=h.o (k*8+1) (by omega);have o2:=h.o (k*8+2) (by omega);have o3:=h.o (k*8+3) (by omega);have o4:=h.o (k*8+4) (by omega);have o5:=h.o (k*8+5) (by omega);have o6:=h.o (k*8+6) (by omega);have o7:=h.o (k*8+7) (by omega)
 have oth:∀b o,(b≠bN∨o<k*8∨k*8+8≤o)→(((((((((wr.setCell ⟨bN,k*8,none⟩ (iv (x.c k).st)).setCell ⟨bN,k*8+1,none⟩ (iv (x.c k).kind)).setCell ⟨bN,k*8+2,none⟩ (iv (x.c k).weak)).setCell ⟨bN,k*8+3,none⟩ (iv (x.c k).last)).setCell ⟨bN,k*8+4,none⟩ (iv (x.c k).born)).setCell ⟨bN,k*8+5,none⟩ (iv (x.c k).color)).setCell ⟨bN,k*8+6,none⟩ (iv (x.c k).to)).setCell ⟨bN,k*8+7,none⟩ (.slice (pa k) (x.c k).prs.length (pk k))).drew).cell? ⟨b,o,none⟩=wr.cell? ⟨b,o,none⟩:=fun b o hb=>by
  rw[drew_cell,cell_other _ (by omega),cell_other _ (by omega),cell_other _ (by omega),cell_other _ (by omega),cell_other _ (by omega),cell_other _ (by omega),cell_other _ (by omega),cell_other _ (by omega)]
 have opn:∀b o,Open wr b o→Open ((((((((wr.setCell ⟨bN,k*8,none⟩ (iv (x.c k).st)).setCell ⟨bN,k*8+1,none⟩ (iv (x.c k).kind)).setCell ⟨bN,k*8+2,none⟩ (iv (x.c k).weak)).setCell ⟨bN,k*8+3,none⟩ (iv (x.c k).last)).setCell ⟨bN,k*8+4,none⟩ (iv (x.c k).born)).setCell ⟨bN,k*8+5,none⟩ (iv (x.c k).color)).setCell ⟨bN,k*8+6,none⟩ (iv (x.c k).to)).setCell ⟨bN,k*8+7,none⟩ (.slice (pa k) (x.c k).prs.length (pk k))).drew b o:=fun b o hb=>((((((((hb.set _ _).set _ _).set _ _).set _ _).set _ _).set _ _).set _ _).set _ _).ext ((Ext.refl _).drew)
 refine⟨h.bx.of fun o _=>oth t o (.inl (by omega)),fun q hq hqk=>?_,fun j hj=>opn bN j (h.o j hj),((((((((h.nf.set _ _).set _ _).set _ _).set _ _).set _ _).set _ _).set _ _).set _ _).ext ((Ext.refl _).drew),?_,hl⟩
 ·by_cases e:q=k
  ·subst e;refine⟨⟨?_,?_,?_,?_,?_,?_,?_⟩,?_⟩
   ·rw[drew_cell,cell_other _ (by omega),cell_other _ (by omega),cell_other _ (by omega),cell_other _ (by omega),cell_other _ (by omega),cell_other _ (by omega),cell_other _ (by omega)];exact o0.same _
   ·rw[drew_cell,cell_other _ (by omega),cell_other _ (by omega),cell_other _ (by omega),cell_other _ (by omega),cell_other _ (by omega),cell_other _ (by omega)];exact(o1.set _ _).same _
   ·rw[drew_cell,cell_other _ (by omega),cell_other _ (by omega),cell_other _ (by omega),cell_other _ (by omega),cell_other _ (by omega)];exact((o2.set _ _).set _ _).same _
   ·rw[drew_cell,cell_other _ (by omega),cell_other _ (by omega),cell_other _ (by omega),cell_other _ (by omega)];exact(((o3.set _ _).set _ _).set _ _).same _
   ·rw[drew_cell,cell_other _ (by omega),cell_other _ (by omega),cell_other _ (by omega)];exact((((o4.set _ _).set _ _).set _ _).set _ _).same _
   ·rw[drew_cell,cell_other _ (by omega),cell_other _ (by omega)];exact(((((o5.set _ _).set _ _).set _ _).set _ _).set _ _).same _
   ·rw[drew_cell,cell_other _ (by omega)];exact((((((o6.set _ _).set _ _).set _ _).set _ _).set _ _).set _ _).same _
   ·rw[drew_cell];exact(((((((o7.set _ _).set _ _).set _ _).set _ _).set _ _).set _ _).set _ _).same _
  ·have hx:=h.s q hq (by omega);exact⟨hx.1.of fun j hj=>oth bN _ (.inr (by omega)),(oth bN _ (.inr (by omega))).trans hx.2⟩
 ·exact((((((((h.on.setNew (p:=⟨bN,k*8,none⟩) hl.2 _).setNew (p:=⟨bN,k*8+1,none⟩) hl.2 _).setNew (p:=⟨bN,k*8+2,none⟩) hl.2 _).setNew (p:=⟨bN,k*8+3,none⟩) hl.2 _).setNew (p:=⟨bN,k*8+4,none⟩) hl.2 _).setNew (p:=⟨bN,k*8+5,none⟩) hl.2 _).setNew (p:=⟨bN,k*8+6,none⟩) hl.2 _).setNew (p:=⟨bN,k*8+7,none⟩) hl.2 _).drew
theorem told_any[Inhabited ProtD]{B:Nat}{b:Nat}{x:Hp}{ar:Option Addr}{kr:Nat}{a4:Option Addr}{n4 k4:Nat}{a8:Option Addr}{n8 k8:Nat}{br bn:Nat}{cB cO:Nat→Nat}{pb:Nat→Nat}{pa:Nat→Option Addr}{pk:Nat→Nat}{kn hd:Nat}{vf:Value}{F:List Int}{vk:Value}{K:List Nat}{role:Nat→Nat}(w:World)
  (h:SAt B w b x ar kr (.slice a4 n4 k4) (.slice a8 n8 k8) br cB cO bn pb pa pk kn hd vf F vk K role) (hG:∀g,g∈x.gray→0≤g∧g<x.cells.length) (hr:0<x.regs.length) (l:x.regs.length≤100∧x.cells.length≤8000∧x.gray.length≤8000∧∀q,q<x.cells.length→(x.c q).prs.length≤200) (hB:B≤w.heap.size) :
  Calls Tryz.prog 59 #[.pointer (some ⟨b,0,none⟩)] w fun e w'=>∃bcN bgN,e=.returned (x.v (.slice (some ⟨br,0,none⟩) x.regs.length kr) (.slice (some ⟨bcN,0,none⟩) x.cells.length x.cells.length) (.slice (some ⟨bgN,0,none⟩) x.gray.length x.gray.length))∧Hid (HRow B w'.heap.size w' x br kr bcN x.cells.length bgN x.gray.length pb pa pk)∧Ext w w':=by
 have H:=hide h;obtain⟨c0,c1,c2,c3,c4,c5,c6,c7,c8,c9,c10,c11,c12⟩:=h.sb.bx;rw[h.sb.ha hr] at c3;have AR:=hide (h.sb.ha hr);have hb:=h.sb.nb.1;have l2:=l.2.1;have HG:=hide hG;have HL:=hide l;clear h hG l;have xa:=((Ext.refl w).alloc (.cells #[iv 0,iv 0,iv 0,.slice none 0 0,.slice none 0 0,iv 0,iv 0,iv 0,.slice none 0 0,iv 0,iv 0,iv 0,iv 0] 34)).alloc (.cells #[iv x.room,iv x.used,iv x.born,.slice (some ⟨br,0,none⟩) x.regs.length kr,.slice a4 n4 k4,iv x.phase,iv x.hand,iv x.sub,.slice a8 n8 k8,iv x.per,iv x.start,iv x.rounds,iv x.forced] 34);have B1:=HBox.new (w.alloc (.cells #[iv 0,iv 0,iv 0,.slice none 0 0,.slice none 0 0,iv 0,iv 0,iv 0,.slice none 0 0,iv 0,iv 0,iv 0,iv 0] 34)) x (.slice (some ⟨br,0,none⟩) x.regs.length kr) (.slice a4 n4 k4) (.slice a8 n8 k8) 34;have hs1:(w.alloc (.cells #[iv 0,iv 0,iv 0,.slice none 0 0,.slice none 0 0,iv 0,iv 0,iv 0,.slice none 0 0,iv 0,iv 0,iv 0,iv 0] 34)).heap.size=w.heap.size+1:=by simp
 rw[hs1] at B1;have hs2:((w.alloc (.cells #[iv 0,iv 0,iv 0,.slice none 0 0,.slice none 0 0,iv 0,iv 0,iv 0,.slice none 0 0,iv 0,iv 0,iv 0,iv 0] 34)).alloc (.cells #[iv x.room,iv x.used,iv x.born,.slice (some ⟨br,0,none⟩) x.regs.length kr,.slice a4 n4 k4,iv x.phase,iv x.hand,iv x.sub,.slice a8 n8 k8,iv x.per,iv x.start,iv x.rounds,iv x.forced] 34)).heap.size=w.heap.size+2:=by simp
 go_enter Tryz.func59,Tryz.ntmps59;go_wp2_with fail;refine(places_any b bn hd x.cells.length x.gray _ ((unhide H).ext xa).sb.rg (fun i hi=>(((unhide H).ext xa).sb.nd i hi).1) (unhide HG)).mono ?_;rintro e w1 ⟨rfl,hgs,hgn,q1⟩;rw[hs2] at hgs hgn ⊢;have hz1:w.heap.size+2<w1.heap.size:=hgn.1;have BX1:=hide (B1.ext q1);have X1:=xa.trans q1;have GS:=hide (And.intro hgs hgn);have d8:=(unhide BX1).2.2.2.2.2.2.2.2.1;have d4:=(unhide BX1).2.2.2.2.1;have fz:∀o,w1.frozen? ⟨w.heap.size+1,o,none⟩=false:=fun o=>((bcell q1).2 (w.heap.size+1) o (by rw[hs2];omega)).trans (by simp [go_sem])
 have g8:=fz 8;have g4:=fz 4;have rc:=hide (show ∀o v,((w.alloc (.cells #[iv 0,iv 0,iv 0,.slice none 0 0,.slice none 0 0,iv 0,iv 0,iv 0,.slice none 0 0,iv 0,iv 0,iv 0,iv 0] 34)).alloc (.cells #[iv x.room,iv x.used,iv x.born,.slice (some ⟨br,0,none⟩) x.regs.length kr,.slice a4 n4 k4,iv x.phase,iv x.hand,iv x.sub,.slice a8 n8 k8,iv x.per,iv x.start,iv x.rounds,iv x.forced] 34)).cell? ⟨w.heap.size,o,none⟩=some v→w1.cell? ⟨w.heap.size,o,none⟩=some v from fun o v h=>q1.keep h);have RF:=hide (show ∀o,w1.frozen? ⟨w.heap.size,o,none⟩=false from fun o=>((bcell q1).2 w.heap.size o (by rw[hs2];omega)).trans (by simp [go_sem]));have n13:=((unhide H).ext X1).sb.n13;have nb1:¬b=w.heap.size+1:=by omega
 have nb2:¬w.heap.size+1=b:=by omega
 obtain⟨z,hmk⟩:=mkCells x.cells.length (by omega) (w1.setCell ⟨w.heap.size+1,8,none⟩ (.slice (some ⟨w.heap.size+2,0,none⟩) x.gray.length x.gray.length));have hsz:(w1.setCell ⟨w.heap.size+1,8,none⟩ (.slice (some ⟨w.heap.size+2,0,none⟩) x.gray.length x.gray.length)).heap.size=w1.heap.size:=by simp [World.setCell]
 rw[hsz] at hmk;have hbw:b<w1.heap.size:=by omega
 have htw:w.heap.size+1<w1.heap.size:=by omega
 clear hgs hgn B1 fz q1 c0 c1 c2 c3 c4 c5 c6 c7 c8 c9 c10 c11 c12;go_wp2_with fail
 have ST:=hide (show Tdl w1 (((w1.setCell ⟨w.heap.size+1,8,none⟩ (.slice (some ⟨w.heap.size+2,0,none⟩) x.gray.length x.gray.length)).setCell ⟨w.heap.size+1,4,none⟩ (.slice (some ⟨w1.heap.size,0,none⟩) x.cells.length x.cells.length)).alloc (.cells (madeCells z (x.cells.length*8)) 62)) x (w.heap.size+1) w1.heap.size (.slice (some ⟨br,0,none⟩) x.regs.length kr) (.slice (some ⟨w1.heap.size,0,none⟩) x.cells.length x.cells.length) (.slice (some ⟨w.heap.size+2,0,none⟩) x.gray.length x.gray.length) pa pk 0 from by
  have hs:((w1.setCell ⟨w.heap.size+1,8,none⟩ (.slice (some ⟨w.heap.size+2,0,none⟩) x.gray.length x.gray.length)).setCell ⟨w.heap.size+1,4,none⟩ (.slice (some ⟨w1.heap.size,0,none⟩) x.cells.length x.cells.length)).heap.size=w1.heap.size:=by simp [World.setCell]
  refine⟨(((unhide BX1).set8 _).set4 _).ext ((Ext.refl _).alloc _),fun q _ h=>by omega,fun j hj=>?_,?_,?_,⟨htw,Nat.le_refl _⟩⟩
  ·have:=made_open ((w1.setCell ⟨w.heap.size+1,8,none⟩ (.slice (some ⟨w.heap.size+2,0,none⟩) x.gray.length x.gray.length)).setCell ⟨w.heap.size+1,4,none⟩ (.slice (some ⟨w1.heap.size,0,none⟩) x.cells.length x.cells.length)) z (x.cells.length*8) 62 j hj;rw[hs] at this;exact this
  ·have:=Nf1.made ((w1.setCell ⟨w.heap.size+1,8,none⟩ (.slice (some ⟨w.heap.size+2,0,none⟩) x.gray.length x.gray.length)).setCell ⟨w.heap.size+1,4,none⟩ (.slice (some ⟨w1.heap.size,0,none⟩) x.cells.length x.cells.length)) z (x.cells.length*8) 62;rw[hs] at this;exact this
  ·exact(Only.setCell (S:=fun q=>q=w.heap.size+1) (Only.setCell (S:=fun q=>q=w.heap.size+1) (Only.refl _ w1) (p:=⟨w.heap.size+1,8,none⟩) rfl _) (p:=⟨w.heap.size+1,4,none⟩) rfl _).trans (Only.of_ext ((Ext.refl _).alloc _)))
 clear d8 d4 g8 g4 n13 hmk;go_loopw [29] (fun i wr=>∃(k:Nat),k≤x.cells.length∧i=.int .i64 k∧Hid (Tdl w1 wr x (w.heap.size+1) w1.heap.size (.slice (some ⟨br,0,none⟩) x.regs.length kr) (.slice (some ⟨w1.heap.size,0,none⟩) x.cells.length x.cells.length) (.slice (some ⟨w.heap.size+2,0,none⟩) x.gray.length x.gray.length) pa pk k)) (fun i _=>x.cells.length-(intOf i).toNat)
 case atStart=>exact⟨0,Nat.zero_le _,rfl,unhide ST⟩
 case round=>
  clear ST;obtain⟨k,hk,rfl,hinv⟩:=hrel;have XR:Ext w wr:=(unhide hinv).on.ext X1 (fun q hq e=>by omega);by_cases hlt:k<x.cells.length
  ·have R:=hide ((unhide hinv).step hlt);have c4:=(unhide hinv).bx.2.2.2.2.1;have n13:=((unhide H).ext XR).sb.n13;obtain⟨m0,m1⟩:=((unhide H).ext XR).sb.nd k hlt;obtain⟨p0,p1,p2,p3,p4,p5,p6⟩:=((unhide H).ext XR).rw.s k hlt;have p7:=((unhide H).ext XR).rw.p7 k hlt;obtain⟨⟨u0,o0⟩,f0⟩:Open wr w1.heap.size (k*8):=(unhide hinv).o (k*8) (by omega);obtain⟨⟨u1,o1⟩,f1⟩:=(unhide hinv).o (k*8+1) (by omega);obtain⟨⟨u2,o2⟩,f2⟩:=(unhide hinv).o (k*8+2) (by omega);obtain⟨⟨u3,o3⟩,f3⟩:=(unhide hinv).o (k*8+3) (by omega);obtain⟨⟨u4,o4⟩,f4⟩:=(unhide hinv).o (k*8+4) (by omega);obtain⟨⟨u5,o5⟩,f5⟩:=(unhide hinv).o (k*8+5) (by omega);obtain⟨⟨u6,o6⟩,f6⟩:=(unhide hinv).o (k*8+6) (by omega);obtain⟨⟨u7,o7⟩,f7⟩:=(unhide hinv).o (k*8+7) (by omega);have k0:(0:Int)≤(k:Int):=by omega
   have k1:(k:Int)<(x.cells.length:Int):=by omega
   clear m0;go_wp2_with fail
   go_region
   all_goals
    go_wp2_with fail;go_roundw
    case rel=>exact⟨k+1,by omega,by go_num,unhide R⟩
    case measure=>simp [intOf];omega
  ·have hk2:k=x.cells.length:=by omega
   subst hk2;have WB:∀q,q<w1.heap.size→q≠w.heap.size+1→wr.heap[q]?=w1.heap[q]?:=fun q hq hne=>(unhide hinv).on.block q hq hne
   have SR:=hide ((unhide H).ext XR)
   have GR:=hide (show SlI wr (.slice (some ⟨w.heap.size+2,0,none⟩) x.gray.length x.gray.length) x.gray∧Nf1 (w.heap.size+2) wr from by
    have e:=WB (w.heap.size+2) (by omega) (by omega);refine⟨SlOf.mono2 (unhide GS).1 fun b' o n c z o' y hy=>?_,nf1_block (unhide GS).2 e (unhide hinv).on.size⟩;simp only [Value.slice.injEq,Option.some.injEq,Addr.mk.injEq] at z;obtain⟨⟨rfl,_,_⟩,_,_⟩:=z;exact(World.cell?_of_block (a:=⟨w.heap.size+2,o',none⟩) e).trans hy)
   have RW:=hide (show ∀W,Only (fun q=>q=w.heap.size) wr W→HRow B W.heap.size W x br kr w1.heap.size x.cells.length (w.heap.size+2) x.gray.length pb pa pk from fun W o=>by
    have rw:=(unhide SR).rw;have hB2:=hB;have lr:=(unhide H).rw.nr hr;have lp:=fun q hq hl=>(unhide H).rw.pl q hq hl
    have hsz:=o.size;have hws:=(unhide hinv).nf.1;have rw2:=rw.only o (fun hl e=>by have:=lr.1.1;omega) (fun q hq e=>by have:=((unhide H).rw.nc q hq).1.1;omega) (fun q hq hl e=>by have:=(lp q hq hl).2.1.1;omega);refine⟨rw2.slW kr (fun _=>rfl) (by have:=(unhide HL).1;omega),fun q hq=>?_,fun q hq=>?_,?_,fun q hq=>?_,fun q hq hl=>?_,(rw2.nr hr).1,?_,?_,⟨by have:=lr.1.1;omega,by have:=lr.1.1;omega,by omega⟩,fun q q' hq hq' hne h1 h2=>rw2.dp q q' hq hq' hne (rw2.pw hq h1) (rw2.pw hq' h2),⟨⟨lr.2,by have:=lr.1.1;have:=XR.size;omega⟩,⟨by omega,by omega⟩,⟨by omega,by omega⟩⟩,unhide HL,rw2.kp⟩
    ·exact((unhide hinv).s q hq hq).1.of fun j _=>World.cell?_of_block (a:=⟨w1.heap.size,_,none⟩) (o.block w1.heap.size hws (by omega))
    ·refine⟨_,_,rfl,by have:=(unhide HL).2.2.2 q hq;omega,fun k hk=>⟨pb q,0,(rw2.pl q hq (rw2.pw hq (by omega))).1,?_⟩⟩;rw[Nat.zero_add,Cl.p_eq _ _ hk];exact rw2.p q hq k hk
    ·refine SlOf.mono2 (unhide GR).1 fun b' o2 n c z o' y hy=>?_
     simp only [Value.slice.injEq,Option.some.injEq,Addr.mk.injEq] at z;obtain⟨⟨rfl,_,_⟩,_,_⟩:=z;exact o.keep (by omega) hy
    ·exact o.keep (by omega) ((unhide hinv).s q hq hq).2
    ·obtain⟨a1,a2,a3,a4⟩:=rw2.pl q hq (rw2.pw hq hl);have:=(lp q hq (rw2.pw hq hl)).2.1.1;exact⟨a1,a2.n1,⟨a3.1,by omega,by omega⟩,a4,by have:=XR.size;omega⟩
    ·exact nf1_block (unhide hinv).nf (o.block w1.heap.size hws (by omega)) hsz
    ·exact nf1_block (unhide GR).2 (o.block (w.heap.size+2) (unhide GR).2.1 (by omega)) hsz)
   have rcell:∀o v,((w.alloc (.cells #[iv 0,iv 0,iv 0,.slice none 0 0,.slice none 0 0,iv 0,iv 0,iv 0,.slice none 0 0,iv 0,iv 0,iv 0,iv 0] 34)).alloc (.cells #[iv x.room,iv x.used,iv x.born,.slice (some ⟨br,0,none⟩) x.regs.length kr,.slice a4 n4 k4,iv x.phase,iv x.hand,iv x.sub,.slice a8 n8 k8,iv x.per,iv x.start,iv x.rounds,iv x.forced] 34)).cell? ⟨w.heap.size,o,none⟩=some v→wr.cell? ⟨w.heap.size,o,none⟩=some v:=fun o v h=>(World.cell?_of_block (a:=⟨w.heap.size,o,none⟩) (WB w.heap.size (by omega) (by omega))).trans (unhide rc o v h)
   have rfz:∀o,wr.frozen? ⟨w.heap.size,o,none⟩=false:=fun o=>(World.frozen?_of_block (a:=⟨w.heap.size,o,none⟩) (WB w.heap.size (by omega) (by omega))).trans (unhide RF o)
   have r0:=rcell 0 (iv 0) (by simp [go_sem]);have r1:=rcell 1 (iv 0) (by simp [go_sem]);have r2:=rcell 2 (iv 0) (by simp [go_sem]);have r3:=rcell 3 (.slice none 0 0) (by simp [go_sem]);have r4:=rcell 4 (.slice none 0 0) (by simp [go_sem]);have r5:=rcell 5 (iv 0) (by simp [go_sem]);have r6:=rcell 6 (iv 0) (by simp [go_sem]);have r7:=rcell 7 (iv 0) (by simp [go_sem]);have r8:=rcell 8 (.slice none 0 0) (by simp [go_sem]);have r9:=rcell 9 (iv 0) (by simp [go_sem]);have r10:=rcell 10 (iv 0) (by simp [go_sem]);have r11:=rcell 11 (iv 0) (by simp [go_sem]);have r12:=rcell 12 (iv 0) (by simp [go_sem]);have f0:=rfz 0;have f1:=rfz 1;have f2:=rfz 2;have f3:=rfz 3;have f4:=rfz 4;have f5:=rfz 5;have f6:=rfz 6;have f7:=rfz 7;have f8:=rfz 8;have f9:=rfz 9;have f10:=rfz 10;have f11:=rfz 11;have f12:=rfz 12;obtain⟨b0,b1,b2,b3,b4,b5,b6,b7,b8,b9,b10,b11,b12⟩:=(unhide hinv).bx;have hb0:w.heap.size+1<wr.heap.size:=cell_lt b0;have hr0:w.heap.size<wr.heap.size:=cell_lt r0;clear hinv rcell rfz WB;go_wp2_with fail;refine bodyPost_ret (v:=x.v (.slice (some ⟨br,0,none⟩) x.regs.length kr) (.slice (some ⟨w1.heap.size,0,none⟩) x.cells.length x.cells.length) (.slice (some ⟨w.heap.size+2,0,none⟩) x.gray.length x.gray.length)) (by simp [results,Tryz.results59,go_sem,r0,r1,r2,r3,r4,r5,r6,r7,r8,r9,r10,r11,r12]) rfl ⟨_,_,rfl,?_⟩;refine(fun(F:Only (fun q=>q=w.heap.size) wr _)=>⟨unhide RW _ F,F.ext XR (fun q hq e=>by omega)⟩) ?_
   repeat (first | refine Only.setCell ?_ (by simp) _ | exact Only.refl _ _)
def HA(B U:Nat)(w:World)(y:Hp)(ar:Option Addr)(kr:Nat)(ac:Option Addr)(kc:Nat)(ag:Option Addr)(kg:Nat):Prop:=(y=Hp0∧ar=none∧kr=0∧ac=none∧kc=0∧ag=none∧kg=0)∨∃br bc bg pb pa pk,ar=some ⟨br,0,none⟩∧ac=some ⟨bc,0,none⟩∧ag=some ⟨bg,0,none⟩∧HRow B U w y br kr bc kc bg kg pb pa pk
theorem OkIs.r16{x:Hp}(h:OkIs x 0):0<x.regs.length∧x.regs.length≤100:=by have:=h.all.1.regs;omega
end Go.Proofs.YtddkhnclmeikfaaGreat
