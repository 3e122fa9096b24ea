import Derived.Test.YtddkhnclmeikfaaGreatKa70
import Derived.Test.YtddkhnclmeikfaaGreatJq
set_option maxRecDepth 100000
set_option maxHeartbeats 1000000
namespace Go.Proofs.YtddkhnclmeikfaaGreat
open Go.RowKit
attribute [local go_sem ↓] Go.wp_at_zero Go.wp_at_succ
def SG(lo hi C B:Nat)(w:World)(b:Nat)(x:Hp):Prop:=∃p:Inhabited ProtD,(∀q,lo≤q→q<hi→(@default ProtD p).z q=w.heap[q]?∧q<w.heap.size)∧(∀q,¬(lo≤q∧q<hi)→(@default ProtD p).z q=none)∧@SOq p C B w b x
theorem SG.enter{p:Inhabited ProtD}{C B:Nat}{w w0:World}{b:Nat}{x:Hp}(h:@SOq p C B w b x)(hz:∀q,(@default ProtD p).z q=none)(e:Ext w w0):SG w.heap.size w0.heap.size C B w0 b x:=by
 obtain⟨p1,o,g⟩:=SOq.enter h e;exact⟨p1,fun q h1 h2=>⟨by rw[o.z q,if_pos ⟨h1,h2⟩],h2⟩,fun q hq=>by rw[o.z q,if_neg hq];exact hz q,g⟩
theorem SG.ext{lo hi C B:Nat}{w w':World}{b:Nat}{x:Hp}(h:SG lo hi C B w b x)(e:Ext w w'):SG lo hi C B w' b x:=by
 obtain⟨p,a,c,g⟩:=h;exact⟨p,fun q h1 h2=>⟨by rw[(a q h1 h2).1,e.block q (a q h1 h2).2],Nat.lt_of_lt_of_le (a q h1 h2).2 e.size⟩,c,g.ext e⟩
theorem SG.write{lo hi C B:Nat}{w w':World}{b:Nat}{x:Hp}(h:SG lo hi C B w b x)(on:Only (fun q=>lo≤q∧q<hi) w w'):SG lo hi C B w' b x:=by
 obtain⟨p,a,c,g⟩:=h;obtain⟨ar,kr,a4,n4,k4,a8,m8,k8,br,cB,cO,bn,pb,pa,pk,kn,hd,vf,F,vk,K,role,h,i,k⟩:=g;have h0:=h;obtain⟨sb,_,_,pr⟩:=h0
 have r1:∀q,lo≤q∧q<hi→role q=1:=fun q hq=>by
  obtain⟨ob,hb⟩:=obj_some (w:=w) (q:=q) (a q hq.1 hq.2).2;exact(pr q ob ((a q hq.1 hq.2).1.trans hb)).1
 have nb:¬(lo≤bn∧bn<hi):=fun hq=>by
  obtain⟨ob,hb⟩:=obj_some (w:=w) (q:=bn) (a bn hq.1 hq.2).2;have:=(a bn hq.1 hq.2).1.trans hb;rw[k.2] at this;cases this
 refine⟨⟨⟨fun q=>if lo≤q∧q<hi then w'.heap[q]? else none⟩⟩,fun q h1 h2=>⟨if_pos ⟨h1,h2⟩,Nat.lt_of_lt_of_le (a q h1 h2).2 on.size⟩,fun q hq=>if_neg hq,ar,kr,a4,n4,k4,a8,m8,k8,br,cB,cO,bn,pb,pa,pk,kn,hd,vf,F,vk,K,role,SAt.far (z:=(@default ProtD p).z) (z2:=fun q=>if lo≤q∧q<hi then w'.heap[q]? else none) h on.size (fun q hq hc=>on.block q hq (fun e=>?_)) (fun _ _ _=>rfl) (fun q o2 hq=>?_),i,k.1,if_neg nb⟩
 ·rcases hc with hc | hc
  ·exact hc (r1 q e)
  ·exact nb (hc ▸ e)
 ·split at hq
  ·rename_i e;exact⟨r1 q e,hq⟩
  ·cases hq
def OpOk(k:Nat):Prop:=k=1∨k=3∨k=6∨k=8∨k=23
theorem ways_ok(p:Inhabited ProtD){C B b:Nat}{x:Hp}{a q c:Nat}{n:Int}{v:World}(s:Snd x)(hC:C+64000≤1000000000)(hv:v.heap.size≤B){k:Nat}(h:OpOk k)(ha:(a:Int)≤actA k)(hq:(q:Int)≤actB k)(hc:(c:Int)≤actC k):WaysOk p C B b x a q c n k v:=by
 rcases h with rfl | rfl | rfl | rfl | rfl
 ·exact ways_1 p s hC ha hq hc hv
 ·exact ways_3 p s ha hv
 ·exact ways_6 p s ha hq hv
 ·exact ways_8 p s ha hq hv
 ·exact ways_23 p hv
def OkAct(A:Ak):Prop:=∃op a b c:Nat,A=⟨op,a,b,c,0⟩∧OpOk op∧actOkB op a b c 0=true
theorem act_fine{lo hi C B:Nat}{w:World}{b:Nat}{x:Hp}(h:SG lo hi C B w b x)(s:Snd x)(hC:C+64000≤1000000000)(A:Ak)(hA:OkAct A)(v:World)(hv:v.heap.size≤B)(hx:Ext v w)(hz:∀y cd nm,DoIs x A.op A.a A.b A.c A.n y cd nm→Snd y→cd=0):
  Calls Tryz.prog 280 #[.pointer (some ⟨b,0,none⟩),A.v] w fun e w'=>∃(y:Hp) (nm:Int),Hid (e=.returned (ansV 0 nm))∧Hid (DoIs x A.op A.a A.b A.c A.n y 0 nm)∧Hid (SG lo hi (C+64000) B w' b y)∧Ext v w'∧Hid (∀q,lo≤q→q<hi→w'.heap[q]?=w.heap[q]?):=by
 obtain⟨op,a,q,c,rfl,ho,ok⟩:=hA;obtain⟨p,g1,g2,g⟩:=h;have hb:=act_bounds ok;have hs:1≤op∧op≤24:=by unfold OpOk at ho;omega
 refine(@answer_fine p C B w b x a q c 0 op g hs.1 hs.2 (.inl rfl) (by simp only [Bool.and_eq_true,decide_eq_true_eq];exact⟨hb.2.1,hb.2.2.1,hb.2.2.2⟩) v hx (fun y cd nm d=>?_) (fun y cd nm d=>by rw[d.room];have:=s.r1.room;omega) (fun p1 _=>ways_ok p1 s hC hv ho hb.2.1.2 hb.2.2.1.2 hb.2.2.2.2)).mono ?_
 ·have d2:DoIs x op a q c 0 y cd nm:=.inr ⟨ok,by simpa using d⟩;exact hz y cd nm d2 (DoIs.snd s d2)
 ·rintro e w' ⟨y,nm,h1,h2,h4,h5⟩
  have bl:∀q,lo≤q→q<hi→w'.heap[q]?=w.heap[q]?:=fun q a b=>by
   obtain⟨ob,hb⟩:=obj_some (w:=w) (q:=q) (g1 q a b).2;rw[hb];exact @SOq.obj p _ _ _ _ _ (unhide h4) _ _ ((g1 q a b).1.trans hb)
  refine⟨y,nm,h1,.inr ⟨ok,by simpa using unhide h2⟩,⟨p,fun q a b=>⟨(g1 q a b).1.trans (bl q a b).symm,?_⟩,g2,unhide h4⟩,h5,bl⟩;obtain⟨ob,hb⟩:=obj_some (w:=w) (q:=q) (g1 q a b).2;exact obj_lt ((bl q a b).trans hb)
def AnAt(w:World)(b o:Nat)(x:Int):Prop:=w.cell? ⟨b,o,none⟩=some (iv 0)∧w.cell? ⟨b,o+1,none⟩=some (iv x)
abbrev SlM(w:World)(v:Value)(xs:List Int):Prop:=SlOf (AnAt w) 2 v xs
theorem infoAns:(Tryz.prog.info? 41).map (fun i=>(i.zero,i.size,i.bytes))=some (some (.agg #[iv 0,iv 0]),2,16):=by kernel_rfl
theorem mkAns(n:Nat)(hn:n≤1048576)(w:World):∃z,(Instr.makeSlice 29 (.int .i64 n) (.int .i64 n)).run Tryz.prog w=.ok (.slice (some ⟨w.heap.size,0,none⟩) n n) (w.alloc (.cells (madeCells z (n*2)) 41)):=by
 obtain⟨i0,hi,hz0,hz1,hz2⟩:=info_parts infoAns;have h:=run_make (P:=Tryz.prog) w 29 41 i0 _ Tryz.underlying29 hi hz0 .i64 .i64 n n (by omega) (Int.le_refl _) (by rw[hz2];omega) (by omega);rw[hz1] at h;simp only [Int.toNat_natCast] at h;exact⟨_,h⟩
theorem meth_answer(b : Nat)(w : World): Sem.run Tryz.prog (method 443 86 (.pointer (some ⟨b, 0, none⟩)) "loop.example/spool/impl.answer") w = .ok (280, .pointer (some ⟨b, 0, none⟩)) w := by kernel_rfl
structure AnI(L:List Ak)(Q:Hp→List Int→Prop)(v w0 wr:World)(b B C k:Nat):Prop where
 hk:k≤L.length
 x:∃(x:Hp) (M:List Int),M.length=k∧Snd x∧SG w0.heap.size (w0.heap.size+1) (C+64000*k) B wr b x∧Wp x (L.drop k) (fun z A=>Q z (M++A))∧∀j (hj:j<M.length),AnAt wr w0.heap.size (j*2) M[j]
 e:Ext v wr
 o:∀j,j<L.length*2→Open wr w0.heap.size j
 s:w0.heap.size<wr.heap.size
theorem AnI.step{L:List Ak}{Q:Hp→List Int→Prop}{v w0 wr:World}{b B C k:Nat}(h:AnI L Q v w0 wr b B C k)(hlt:k<L.length)(hC:C+64000*1000≤1000000000)(hn:L.length≤1000)(hv:v.heap.size≤B)(hB:B≤w0.heap.size)(ok:∀A,A∈L→OkAct A)(W:World)(xW:Ext wr W):
  Calls Tryz.prog 280 #[.pointer (some ⟨b,0,none⟩),L[k].v] W fun e w'=>∃nm:Int,Hid (e=.returned (ansV 0 nm))∧(∀j,j<L.length*2→Open w' w0.heap.size j)∧w0.heap.size<w'.heap.size∧Ext v w'∧Hid (∀W',Only (fun q=>q=w0.heap.size) w' W'→(∀j,W'.cell? ⟨w0.heap.size,j,none⟩=if j=k*2 then some (iv 0) else if j=k*2+1 then some (iv nm) else w'.cell? ⟨w0.heap.size,j,none⟩)→(∀j,W'.frozen? ⟨w0.heap.size,j,none⟩=w'.frozen? ⟨w0.heap.size,j,none⟩)→AnI L Q v w0 W' b B C (k+1)):=by
 obtain⟨hk,⟨x,M,hM,s,g,hw,ha⟩,he,ho,hs⟩:=h;rw[List.drop_eq_getElem_cons hlt] at hw;refine(act_fine (g.ext xW) s (by omega) L[k] (ok _ (List.getElem_mem hlt)) v hv (he.trans xW) (fun y cd nm d t=>(hw y cd nm d t).1)).mono ?_;rintro e w' ⟨y,nm,h1,h2,h3,h4,h5⟩;have sy:=DoIs.snd s (unhide h2);have hw':=(hw y 0 nm (unhide h2) sy).2;have bl:=(unhide h5 w0.heap.size (Nat.le_refl _) (by omega)).trans (xW.block _ hs);have cl:∀j,w'.cell? ⟨w0.heap.size,j,none⟩=wr.cell? ⟨w0.heap.size,j,none⟩:=fun j=>World.cell?_of_block (a:=⟨w0.heap.size,j,none⟩) bl
 have fz:∀j,w'.frozen? ⟨w0.heap.size,j,none⟩=wr.frozen? ⟨w0.heap.size,j,none⟩:=fun j=>World.frozen?_of_block (a:=⟨w0.heap.size,j,none⟩) bl
 have hs':w0.heap.size<w'.heap.size:=by
  obtain⟨ob,hb⟩:=obj_some (w:=wr) (q:=w0.heap.size) hs;exact obj_lt (bl.trans hb)
 have op:∀j,j<L.length*2→Open w' w0.heap.size j:=fun j hj=>by
  unfold Open;rw[cl,fz];exact ho j hj
 refine⟨nm,h1,op,hs',h4,fun W' on hc hf=>⟨by omega,⟨y,M++[nm],by simp [hM],sy,?_,?_,fun j hj=>?_⟩,on.ext h4 (fun q hq e=>by omega),fun j hj=>?_,Nat.lt_of_lt_of_le hs' on.size⟩⟩
 ·have g2:=(unhide h3).write (on.mono (fun q e=>by omega));rw[show C+64000*(k+1)=C+64000*k+64000 by omega];exact g2
 ·simpa using hw'
 ·unfold AnAt;rw[hc,hc,cl,cl];by_cases e:j=k
  ·subst e;rw[if_pos rfl,if_neg (by omega),if_pos rfl];refine⟨rfl,?_⟩;simp [←hM]
  ·have hj2:j<M.length:=by simp at hj;omega
   rw[if_neg (by omega),if_neg (by omega),if_neg (by omega),if_neg (by omega),List.getElem_append_left hj2];exact ha j hj2
 ·obtain⟨⟨u,hu⟩,f⟩:=op j hj;refine⟨?_,by rw[hf];exact f⟩;rw[hc]
  split
  ·exact⟨_,rfl⟩
  ·split
   ·exact⟨_,rfl⟩
   ·exact⟨u,hu⟩
theorem answers_any(p:Inhabited ProtD)(hz:∀q,(@default ProtD p).z q=none)(L:List Ak)(va:Value)(v w:World)(b B C:Nat)(x:Hp)(Q:Hp→List Int→Prop)(hn:L.length≤1000)(hC:C+64000*1000≤1000000000)(hS:SlA v va L)(hv:v.heap.size≤B)(hB:B≤w.heap.size)(hx:Ext v w)(s:Snd x)(h:@SOq p C B w b x)(ok:∀A,A∈L→OkAct A)(hw:Wp x L Q):
  Calls Tryz.prog 58 #[.pointer (some ⟨b,0,none⟩),va] w fun e w'=>∃(y:Hp) (M:List Int) (D:Nat),Hid (e=.returned (.slice (some ⟨w.heap.size,0,none⟩) L.length L.length))∧Hid (Q y M∧M.length=L.length)∧Snd y∧Hid (SG w.heap.size (w.heap.size+1) D B w' b y)∧Hid (SlM w' (.slice (some ⟨w.heap.size,0,none⟩) L.length L.length) M)∧Ext v w':=by
 obtain⟨ad,cap,rfl,hl,hxs⟩:=hS;obtain⟨z,hmk⟩:=mkAns L.length (by omega) w;have hme:=meth_answer b;have hB2:=hB;have I0:=hide (show AnI L Q v w (w.alloc (.cells (madeCells z (L.length*2)) 41)) b B C 0 from⟨Nat.zero_le _,⟨x,[],rfl,s,by have:=SG.enter h hz ((Ext.refl w).alloc (.cells (madeCells z (L.length*2)) 41));simpa using this,hw,fun j hj=>absurd hj (by simp)⟩,hx.trans ((Ext.refl w).alloc _),fun j hj=>made_open _ _ _ _ _ hj,by simp⟩);have ST:=hide (fun(wr W:World) (k:Nat) (hi:AnI L Q v w wr b B C k) (hlt:k<L.length) (xW:Ext wr W)=>hi.step hlt hC hn hv hB ok W xW);clear h hw s hz hB hC;go_enter Tryz.func58,Tryz.ntmps58;go_wp2_with fail;go_loopw [13] (fun i wr=>∃k:Nat,i=.int .i64 k∧Hid (AnI L Q v w wr b B C k)) (fun i _=>L.length-(intOf i).toNat)
 case atStart=>exact⟨0,rfl,I0⟩
 case round=>
  obtain⟨k,rfl,hi⟩:=hrel;have hk:=(unhide hi).hk;by_cases hlt:k<L.length
  ·obtain⟨b1,o1,rfl,p0,p1,p2,p3,p4⟩:=hxs k hlt;have e0:=(unhide hi).e.keep p0;have e1:=(unhide hi).e.keep p1;have e2:=(unhide hi).e.keep p2;have e3:=(unhide hi).e.keep p3;have e4:=(unhide hi).e.keep p4;clear p0 p1 p2 p3 p4;have hk0:(0:Int)≤(k:Int):=by omega
   have hk1:(k:Int)<(L.length:Int):=by omega
   go_wp2_with fail;refine(unhide ST wr _ k (unhide hi) hlt ((Ext.refl wr).alloc _)).mono ?_;rintro e w2 ⟨nm,h1,h2,h3,h4,h5⟩;have h1:=unhide h1;subst h1;obtain⟨⟨v0,c0⟩,f0⟩:=h2 (k*2) (by omega);obtain⟨⟨v1,c1⟩,f1⟩:=h2 (k*2+1) (by omega);clear h2 ST I0 hme hmk;go_wp2_with fail;go_roundw
   case rel=>
    refine⟨k+1,by go_num,unhide h5 _ ((Only.setCell (S:=fun q=>q=w.heap.size) (Only.refl _ w2) (p:=⟨w.heap.size,k*2,none⟩) rfl _).setCell (p:=⟨w.heap.size,k*2+1,none⟩) rfl _) (fun j=>?_) (fun j=>by rw[World.frozen?_setCell,World.frozen?_setCell])⟩;by_cases a:j=k*2+1
    ·subst a;rw[if_neg (by omega),if_pos rfl];exact World.cell?_setCell_same _ _ _ ((World.cell?_setCell_other _ _ _ _ (by intro e;simp only [Addr.mk.injEq] at e;omega)).trans c1)
    ·rw[World.cell?_setCell_other _ _ _ _ (by intro e;simp only [Addr.mk.injEq] at e;omega)];by_cases c:j=k*2
     ·subst c;rw[if_pos rfl];exact World.cell?_setCell_same _ _ _ c0
     ·rw[World.cell?_setCell_other _ _ _ _ (by intro e;simp only [Addr.mk.injEq] at e;omega),if_neg c,if_neg a]
   case measure=>simp [intOf];omega
  ·obtain⟨_,⟨y,M,hM,s,g,hw,ha⟩,he,_,_⟩:=unhide hi;have hk2:k=L.length:=by omega
   subst hk2;rw[List.drop_length] at hw;have hw:Q y (M++[]):=hw;rw[List.append_nil] at hw;have R:=hide (show Q y M∧M.length=L.length from⟨hw,hM⟩);have G:=hide g;have A:=hide (show SlM wr (.slice (some ⟨w.heap.size,0,none⟩) L.length L.length) M from⟨_,_,by rw[hM],by rw[hM];exact hl,fun i hi=>⟨_,_,rfl,by simpa using ha i hi⟩⟩);clear hw hM g ha hi ST I0 hme hmk;go_wp2_with fail;go_ret;exact⟨y,M,_,rfl,R,s,G,A,he⟩
end Go.Proofs.YtddkhnclmeikfaaGreat
