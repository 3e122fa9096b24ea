import Derived.Test.YtddkhnclmeikfaaGreatCb3
set_option maxRecDepth 100000
set_option maxHeartbeats 4000000
namespace Go.Proofs.YtddkhnclmeikfaaGreat
open Go.RowKit
attribute [local go_sem ↓] Go.wp_at_zero Go.wp_at_succ
theorem ok_ak{op a b c:Nat}(h:OpOk op)(ha:(a:Int)≤actA op)(hb:(b:Int)≤actB op)(hc:(c:Int)≤actC op):OkAct (ak op a b c):=⟨op,a,b,c,rfl,h,ok_of (by unfold OpOk at h;omega) (by unfold OpOk at h;omega) ha hb hc⟩
theorem loop_ok(u:Nat)(hu:u≤20):∀i,i≤60→∀A,A∈loopN u i→OkAct A
 | 0,_,A,h=>by simp [loopN] at h
 | i+1,hi,A,h=>by
  unfold loopN loopA at h;rcases List.mem_append.1 h with h | h
  ·exact loop_ok u hu i (by omega) A h
  ·simp only [List.mem_cons,List.not_mem_nil,or_false] at h;rcases h with rfl | rfl | rfl | rfl | rfl
   ·exact ok_ak (by simp [OpOk]) (by decide) (by decide) (by show(i:Int)≤199;omega)
   ·exact ok_ak (by simp [OpOk]) (by decide) (by decide) (by decide)
   ·exact ok_ak (by simp [OpOk]) (by decide) (by decide) (by show(i:Int)≤199;omega)
   ·exact ok_ak (by simp [OpOk]) (by decide) (by decide) (by show(u:Int)≤100000;omega)
   ·exact ok_ak (by simp [OpOk]) (by decide) (by decide) (by decide)
theorem chain_ok(n u:Nat)(hn:n≤60)(hu:u≤20)(A:Ak)(h:A∈chainA n u):OkAct A:=by
 unfold chainA at h;rcases List.mem_append.1 h with h | h
 ·rcases List.mem_append.1 h with h | h
  ·unfold headA at h;simp only [List.mem_cons,List.not_mem_nil,or_false] at h;rcases h with rfl | rfl | rfl | rfl
   ·exact ok_ak (by simp [OpOk]) (by decide) (by decide) (by show(n:Int)≤200;omega)
   all_goals exact ok_ak (by simp [OpOk]) (by decide) (by decide) (by decide)
  ·exact loop_ok u hu n hn A h
 ·unfold tailA at h;simp only [List.mem_cons,List.not_mem_nil,or_false] at h;rcases h with rfl | rfl | rfl | rfl | rfl | rfl | rfl | rfl | rfl | rfl | rfl | rfl
  all_goals exact ok_ak (by simp [OpOk]) (by decide) (by decide) (by first | decide | (show(u:Int)≤100000;omega))
theorem lit2(w:World)(t:TypeId)(a b:Int):SlI (w.alloc (.cells #[iv a,iv b] t)) (.slice (some ⟨w.heap.size,0,none⟩) 2 2) [a,b]:=⟨_,_,rfl,by simp,fun i hi=>⟨w.heap.size,0,rfl,by
 match i,hi with
 | 0,_=>simp [InAt,go_sem]
 | 1,_=>simp [InAt,go_sem]
 | i+2,hi=>simp at hi;omega⟩⟩
theorem lit1(w:World)(t:TypeId)(a:Int):SlI (w.alloc (.cells #[iv a] t)) (.slice (some ⟨w.heap.size,0,none⟩) 1 1) [a]:=⟨_,_,rfl,by simp,fun i hi=>⟨w.heap.size,0,rfl,by
 match i,hi with
 | 0,_=>simp [InAt,go_sem]
 | i+1,hi=>simp at hi⟩⟩
theorem nums_loop(u:Nat)(op:Int)(h:op=17∨op=20∨op=21):∀i,numsL (loopN u i) (List.replicate (5*i) 0) op=[]
 | 0=>by simp [loopN,numsL]
 | i+1=>by
  have e:List.replicate (5*(i+1)) (0:Int)=List.replicate (5*i) 0++List.replicate 5 0:=by rw[List.replicate_append_replicate];rfl
  unfold loopN;rw[e,numsL_app op _ _ _ _ (by simp [loopN_len]),nums_loop u op h i];unfold loopA ak;rcases h with rfl | rfl | rfl <;> simp [numsL,List.replicate]
theorem nums_chain(n u:Nat)(op:Int)(h:op=17∨op=20∨op=21):numsL (chainA n u) (chainM n) op=if op=17 then [(n:Int),0] else if op=20 then [2*(n:Int)+2,(n:Int)+1] else [1]:=by
 unfold chainA chainM;rw[numsL_app op _ _ _ _ (by simp [headA,loopN_len]),numsL_app op _ _ _ _ (by simp [headA]),nums_loop u op h];unfold headA tailA tailM ak;rcases h with rfl | rfl | rfl <;> simp [numsL]
theorem chainLaw_in(w:World)(u:Value)(h:ByAt w u):
  Calls Tryz.prog 8 #[u] w fun e w'=>e=.returned (.bool true)∧Ext w w':=by
 have HB:=hide h;obtain⟨au,nu,ku,rfl,hu,_⟩:=h;have hnu:¬((nu:Int) > 1048576):=by omega
 go_enter Tryz.func8,Tryz.ntmps8;go_wp2_with fail;refine(wByte_any w _ 0 (by omega) (unhide HB)).mono ?_;rintro e w1 ⟨r,he,r0,r1,rfl⟩;have e2:=unhide he;subst e2;clear he;go_wp2_with fail;refine(wByte_any w1 _ 1 (by omega) (unhide HB)).mono ?_;rintro e w1 ⟨r',he,r0',r1',rfl⟩;have e2:=unhide he;subst e2;clear he;go_wp2_with fail;obtain⟨n,hn⟩:∃n:Nat,1+r % 60=n:=⟨(1+r % 60).toNat,by omega⟩;obtain⟨u,hu'⟩:∃u:Nat,r' % 21=u:=⟨(r' % 21).toNat,by omega⟩;rw[hn,hu'];have n1:1≤n:=by omega
 have n60:n≤60:=by omega
 have u20:u≤20:=by omega
 clear hn hu' r0 r1 r0' r1' HB;refine(madeChain_any n u n60 w1).mono ?_;rintro e w2 ⟨va,he,RW⟩;have e2:=unhide he;subst e2;have x2:=(unhide RW).ex;have len:(chainA n u).length=5*n+16:=by simp [chainA,headA,tailA,loopN_len]
 have SL:=hide (ownA (unhide RW).ow (by omega));have LEN:=hide len;clear he RW len;obtain⟨ad,cap,hva⟩:=slA_form (unhide SL);subst hva;have QP:=hide (play_any (chainA n u) _ w2 (fun z M=>Snd z∧M=chainM n) (by have:=unhide LEN;omega) (unhide SL) (chain_ok n u n60 u20) (chain_all n u n1 n60 u20));go_wp2_with fail;refine(unhide QP).mono ?_;rintro e w3 ⟨y,M,am,ar,ac,ag,m1,c1,m2,c2,m3,c3,m4,c4,he,hq,hm,x3⟩;have e2:e=.returned (.agg #[.bool true,.slice am m1 c1,iv y.room,iv y.used,iv y.born,.slice ar m2 c2,.slice ac m3 c3,iv y.phase,iv y.hand,iv y.sub,.slice ag m4 c4,iv y.per,iv y.start,iv y.rounds,iv y.forced]):=unhide he;subst e2;clear he QP;go_wp2_with fail;obtain⟨W4,hW4⟩:∃W,W=w3.alloc (.cells #[.bool true,.slice am m1 c1,iv y.room,iv y.used,iv y.born,.slice ar m2 c2,.slice ac m3 c3,iv y.phase,iv y.hand,iv y.sub,.slice ag m4 c4,iv y.per,iv y.start,iv y.rounds,iv y.forced] 36):=⟨_,rfl⟩;have x4:Ext w3 W4:=by rw[hW4];exact(Ext.refl _).alloc _
 have b0:W4.cell? ⟨w3.heap.size,0,none⟩=some (.bool true):=by rw[hW4];simp [go_sem]
 have b1:W4.cell? ⟨w3.heap.size,1,none⟩=some (.slice am m1 c1):=by rw[hW4];simp [go_sem]
 have X4:=(x2.trans x3).trans x4;have WN:=hide (fun(op:Int) (W:World) (e:Ext W4 W)=>wNums_any (chainA n u) M (.slice ad (chainA n u).length cap) (.slice am m1 c1) op W (by have:=unhide LEN;omega) (by rw[(unhide hq).2];have:=unhide LEN;simp [chainM,tailM];omega) (SlA.ext ((x3.trans x4).trans e) (unhide SL)) ((unhide hm).mono fun _ _ _ k=>⟨(x4.trans e).keep k.1,(x4.trans e).keep k.2⟩));have EM:=hide (unhide hq).2;rw[←hW4];clear hW4 x4 x3 x2 hm hq SL LEN;refine(unhide WN 17 W4 (Ext.refl _)).mono ?_;rintro e w5 ⟨v5,he,s5,x5⟩;have e2:=unhide he;subst e2;have S5:=hide (show SlI w5 v5 [(n:Int),0] from by have:=unhide s5;rw[unhide EM,nums_chain n u 17 (.inl rfl)] at this;exact this);have d0:=x5.keep b0;have d1:=x5.keep b1;clear he s5;go_wp2_with fail;refine(unhide WN 20 w5 x5).mono ?_;rintro e w6 ⟨v6,he,s6,x6⟩;have e2:=unhide he;subst e2;have S6:=hide (show SlI w6 v6 [2*(n:Int)+2,(n:Int)+1] from by have:=unhide s6;rw[unhide EM,nums_chain n u 20 (.inr (.inl rfl))] at this;exact this);have d0:=x6.keep d0;have d1:=x6.keep d1;clear he s6;go_wp2_with fail;refine(unhide WN 21 w6 (x5.trans x6)).mono ?_;rintro e w7 ⟨v7,he,s7,x7⟩;have e2:=unhide he;subst e2;have S7:=hide (show SlI w7 v7 [1] from by have:=unhide s7;rw[unhide EM,nums_chain n u 21 (.inr (.inr rfl))] at this;exact this);have d0:=x7.keep d0;have d1:=x7.keep d1;clear he s7 WN EM;go_wp2_with fail;refine(wInts_same [(n:Int),0] _ _ _ (SlI.ext (((x6.trans x7)).trans ((Ext.refl w7).alloc _)) (unhide S5)) (lit2 w7 _ _ _)).mono ?_;rintro e w8 ⟨rfl,x8⟩;have y8:Ext w7 w8:=((Ext.refl w7).alloc _).trans x8;clear x8;go_wp2_with fail;refine(wInts_same [2*(n:Int)+2,(n:Int)+1] _ _ _ (SlI.ext ((x7.trans y8).trans ((Ext.refl w8).alloc _)) (unhide S6)) (lit2 w8 _ _ _)).mono ?_;rintro e w9 ⟨rfl,x9⟩;have y9:Ext w8 w9:=((Ext.refl w8).alloc _).trans x9;clear x9;go_wp2_with fail;refine(wInts_same [1] _ _ _ (SlI.ext ((y8.trans y9).trans ((Ext.refl w9).alloc _)) (unhide S7)) (lit1 w9 _ _)).mono ?_;rintro e w10 ⟨rfl,x10⟩;have Y:=(((((X4.trans x5).trans x6).trans x7).trans y8).trans y9).trans (((Ext.refl w9).alloc _).trans x10);go_wp2_with fail;go_ret;exact⟨rfl,Y⟩
end Go.Proofs.YtddkhnclmeikfaaGreat
