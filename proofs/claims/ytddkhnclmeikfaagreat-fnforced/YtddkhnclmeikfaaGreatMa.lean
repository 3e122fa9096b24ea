import Derived.Test.YtddkhnclmeikfaaGreatDn1
import Derived.Laws.StructEq
set_option maxRecDepth 100000
set_option maxHeartbeats 2000000
namespace Go.Proofs.YtddkhnclmeikfaaGreat
open Go.RowKit
attribute [local go_sem ↓] Go.wp_at_zero Go.wp_at_succ
theorem shut_end[Inhabited ProtD]{B:Nat}{w:World}{b:Nat}{x:Hp}{ar:Option Addr}{kr:Nat}{v4 v8:Value}{br bn:Nat}{cB cO:Nat→Nat}{pb:Nat→Nat}{pa:Nat→Option Addr}{pk:Nat→Nat}{kn hd:Nat}{vf:Value}{F:List Int}{vk:Value}{K:List Nat}{role:Nat→Nat}(h:SAt B w b x ar kr v4 v8 br cB cO bn pb pa pk kn hd vf F vk K role)(hp:x.phase=6)(he:x.hand=0)(hr:0≤x.rounds∧x.rounds≤1000000000)(a:World)(ha:a.heap.size≤B)(hx:Ext a w):
  Calls Tryz.prog 336 #[.agg #[.pointer (some ⟨b,0,none⟩)]] w fun e w'=>e=.returned (nowV (unit6 x).phase b)∧Hid (SAt B w' b (unit6 x) ar kr v4 v8 br cB cO bn pb pa pk kn hd vf F vk K role)∧Ext a w':=by
 have E:=hide (show unit6 x={ toPh x 0 0 with rounds:=if x.rounds<1000000000 then x.rounds+1 else x.rounds } by unfold unit6;rw[if_pos he];rfl);have H:=hide h;have HP:=hide hp;have HR:=hide hr;have c6:=h.sb.bx.2.2.2.2.2.2.1;rw[he] at c6;have hbw:b<w.heap.size:=h.sb.nb.1;have XA2:=hide ((Ext.refl w).alloc (.cells #[.pointer (some ⟨b,0,none⟩)] 238));clear h hp he hr;go_enter Tryz.func336,Tryz.ntmps336;go_wp2_with fail;refine(turn_6 ((unhide H).ext (unhide XA2)) (unhide HP) (unhide HR) a ha (hx.trans (unhide XA2))).mono ?_;rintro e w2 ⟨rfl,h2,x2⟩;go_wp2_with fail;go_ret;exact⟨by rw[unhide E];rfl,by rw[unhide E];exact unhide h2,x2⟩
theorem shut_cell[Inhabited ProtD]{B:Nat}{w:World}{b:Nat}{x:Hp}{ar:Option Addr}{kr:Nat}{v4 v8:Value}{br bn:Nat}{cB cO:Nat→Nat}{pb:Nat→Nat}{pa:Nat→Option Addr}{pk:Nat→Nat}{kn hd:Nat}{vf:Value}{F:List Int}{vk:Value}{K:List Nat}{role:Nat→Nat}(h:SAt B w b x ar kr v4 v8 br cB cO bn pb pa pk kn hd vf F vk K role)(n8:x.cells.length≤8000)(hp:x.phase=6)(i:Nat)(hi:x.hand=(i:Int)+1)(hin:i<x.cells.length)(hk:x.cells.length≤kn)(ho:Ho F)(hl:F.length≤1000000000)(a:World)(ha:a.heap.size≤B)(hx:Ext a w):
  Calls Tryz.prog 336 #[.agg #[.pointer (some ⟨b,0,none⟩)]] w fun e w'=>e=.returned (nowV (unit6 x).phase b)∧Hid (∃pa' pk' vf' F' role',SAt B w' b (unit6 x) ar kr v4 v8 br cB cO bn pb pa' pk' kn hd vf' F' vk K role'∧Ho F'∧(((x.c i).st=2∧F'.Perm ((i:Int)::F))∨((x.c i).st≠2∧F'=F)))∧Ext a w':=by
 have EU:=hide (show unit6 x=dropH (shutH x i) i by unfold unit6;rw[if_neg (by omega),show(x.hand-1).toNat=i by omega]);have EP:=hide (show(unit6 x).phase=6 by rw[unhide EU];unfold dropH;split <;> (unfold shutH;exact hp));have hbw:b<w.heap.size:=h.sb.nb.1;have lo:=h.sb.lo.1;have H:=hide h;have XA:=(Ext.refl w).alloc (.cells #[.pointer (some ⟨b,0,none⟩)] 238);have XA2:=hide XA;have c6:=h.sb.bx.2.2.2.2.2.2.1;rw[hi] at c6;have f6:=h.sb.nb.2 6;have hi0:((i:Int)+1 == 0)=false:=by simp;omega
 have HBC:=hide (h.rw.nc i hin);have FOW:=hide (show ∀q,vf.ownBlock=some q→q<w.heap.size from fun q hq=>(h.sb.fr.own.lt q hq).2);have HO:=hide (And.intro ho hl);have nsb:¬w.heap.size=b:=by omega
 have nbs:¬b=w.heap.size:=by omega
 clear h hp hi XA ho hl;go_enter Tryz.func336,Tryz.ntmps336;go_wp2_with fail;obtain⟨W1,hW1⟩:∃W,W=(w.setCell ⟨b,6,none⟩ (iv i)).alloc (.cells #[.pointer (some ⟨b,0,none⟩)] 238):=⟨_,rfl⟩;have H1:=hide (show SAt B W1 b { x with hand:=(i:Int) } ar kr v4 v8 br cB cO bn pb pa pk kn hd vf F vk K role by rw[hW1];exact((unhide H).hand (i:Int)).ext ((Ext.refl _).alloc _));have X1:=hide (show Ext a W1 by rw[hW1];exact(hx.setCell (p:=⟨b,6,none⟩) (show a.heap.size≤b by omega) _).alloc _)
 have r1:W1.cell? ⟨w.heap.size,0,none⟩=some (.pointer (some ⟨b,0,none⟩)):=by
  rw[hW1];have:w.heap.size=(w.setCell ⟨b,6,none⟩ (iv i)).heap.size:=by simp [World.setCell]
  rw[this];simp [go_sem]
 rw[←hW1];clear hW1 c6 f6;refine(atHand_some b x.cells.length kn bn i _ (unhide H1).sb.bx.2.2.2.2.2.2.1 (unhide H1).sb.n13 hin).mono ?_;rintro e w2 ⟨rfl,x2⟩;have H2:=hide ((unhide H1).ext x2);have X2:=hide ((unhide X1).trans x2);have r2:=x2.keep r1;obtain⟨m0,m1⟩:=(unhide H2).sb.nd i hin;have p0:w2.cell? ⟨cB i,cO i,none⟩=some (iv (x.c i).st):=((unhide H2).rw.s i hin).1;have hs2:w.heap.size<w2.heap.size:=cell_lt r2;clear r1 x2 H1 X1;cases q2:((x.c i).st == 2)
 ·have ES:=hide (show unit6 x=dropH { x with hand:=(i:Int) } i by rw[unhide EU];unfold shutH;rw[if_neg (by simpa using q2)]);have NS:=hide (show(x.c i).st≠2 by simpa using q2);have n13:w2.cell? ⟨b,13,none⟩=some (.slice (some ⟨bn,0,none⟩) x.cells.length kn):=(unhide H2).sb.n13;go_wp2_with fail;clear q2;by_cases hlast:i+1=x.cells.length
  ·cases q0:((x.c i).st == 0)
   ·skip
    have EF:=hide (show unit6 x={ x with cells:=x.cells,hand:=(i:Int) } by rw[unhide ES];unfold dropH;rw[if_neg (fun e=>by have:=e.2;simp at q0;exact q0 this)]);have g1:((i:Int) == (x.cells.length:Int)-1)=true:=by simp;omega
    go_quiet (fail);go_wp2_with fail;go_ret;exact⟨by rw[unhide EP];rfl,by rw[unhide EF];exact⟨_,_,_,_,_,(unhide H2).ext ((Ext.refl _).drewN _),(unhide HO).1,Or.inr ⟨unhide NS,rfl⟩⟩,(unhide X2).drewN _⟩
   ·skip
    have EF:=hide (show unit6 x={ x with cells:=(x.cells).take i,hand:=(i:Int) } by rw[unhide ES];unfold dropH;rw[if_pos ⟨by simpa using hlast,(show(x.c i).st=0 by simpa using q0)⟩]);have g1:((i:Int) == (x.cells.length:Int)-1)=true:=by simp;omega
    have k1:(i:Int)≤(kn:Int):=by omega
    have k0:(0:Int)≤(i:Int):=by omega
    have f13:=(unhide H2).sb.nb.2 13;have hbW:b<w2.heap.size:=(unhide H2).sb.nb.1;have FN:=hide (show ∀W',Ext w2 W'→SAt B (W'.setCell ⟨b,13,none⟩ (.slice (some ⟨bn,0,none⟩) i kn)) b { x with cells:=(x.cells).take i,hand:=(i:Int) } ar kr v4 v8 br cB cO bn pb pa pk kn hd vf F vk K role∧Ext a (W'.setCell ⟨b,13,none⟩ (.slice (some ⟨bn,0,none⟩) i kn)) from fun W' xw=>⟨((unhide H2).ext xw).drop i (by simpa using hlast),((unhide X2).trans xw).setCell (p:=⟨b,13,none⟩) (show a.heap.size≤b by omega) _⟩);clear hlast;go_quiet (fail);obtain⟨d1,hd1⟩:∃m,m=nq:=⟨_,rfl⟩;go_wp2_with fail
    go_region
    all_goals
     go_wp2_with fail;go_ret
     first | exact⟨by rw[unhide EP];rfl,by rw[unhide EF];exact⟨_,_,_,_,_,((unhide FN _ ((Ext.refl _).drewN _)).1).ext (Ext.refl _).drew,(unhide HO).1,Or.inr ⟨unhide NS,rfl⟩⟩,((unhide FN _ ((Ext.refl _).drewN _)).2).drew⟩ | exact⟨by rw[unhide EP];rfl,by rw[unhide EF];exact⟨_,_,_,_,_,(unhide FN _ ((Ext.refl _).drewN _)).1,(unhide HO).1,Or.inr ⟨unhide NS,rfl⟩⟩,(unhide FN _ ((Ext.refl _).drewN _)).2⟩
  ·skip
   have EF:=hide (show unit6 x={ x with cells:=x.cells,hand:=(i:Int) } by rw[unhide ES];unfold dropH;rw[if_neg (fun e=>hlast (by simpa using e.1))]);have g1:((i:Int) == (x.cells.length:Int)-1)=false:=by simp;omega
   go_quiet (fail);go_wp2_with fail;go_ret;exact⟨by rw[unhide EP];rfl,by rw[unhide EF];exact⟨_,_,_,_,_,(unhide H2).ext ((Ext.refl _).drewN _),(unhide HO).1,Or.inr ⟨unhide NS,rfl⟩⟩,(unhide X2).drewN _⟩
 ·have ES:=hide (show unit6 x=dropH { x with cells:=x.cells.set i Cl0,hand:=(i:Int) } i by rw[unhide EU];unfold shutH;rw[if_pos (by simpa using q2)]);have NS:=hide (show(x.c i).st=2 by simpa using q2);go_wp2_with fail;refine(giveBack_any (unhide H2) i hin (unhide HO).1 (unhide HO).2 a ha (unhide X2)).mono ?_;rintro e w3 ⟨rfl,g3,x3⟩;obtain⟨pa',pk',vf',F',role',h3,ho3,pm3⟩:=g3.1;have r3:w3.cell? ⟨w.heap.size,0,none⟩=some (.pointer (some ⟨b,0,none⟩)):=(World.cell?_of_block (a:=⟨w.heap.size,0,none⟩) (g3.2 w.heap.size hs2 nsb (by have:=(unhide HBC).1.1;omega) (fun e=>Nat.lt_irrefl _ (unhide FOW _ e)))).trans r2;have H3:=hide (show SAt B w3 b { x with cells:=x.cells.set i Cl0,hand:=(i:Int) } ar kr v4 v8 br cB cO bn pb pa' pk' kn hd vf' F' vk K role' from h3);have X3:=hide x3;have HP3:=hide (And.intro ho3 pm3);clear g3 x3 h3 ho3 pm3 m0 m1 p0 r2 hs2 H2 X2 q2;have hl3:(x.cells.set i Cl0).length=x.cells.length:=by simp
  obtain⟨m0,m1⟩:=(unhide H3).sb.nd i (by rw[hl3];exact hin)
  have p0:w3.cell? ⟨cB i,cO i,none⟩=some (iv 0):=by
   have:=((unhide H3).rw.s i (by rw[hl3];exact hin)).1;exact this.trans (by simp [Hp.c,hin];rfl)
  have n13:w3.cell? ⟨b,13,none⟩=some (.slice (some ⟨bn,0,none⟩) x.cells.length kn):=by have:=(unhide H3).sb.n13;rw[hl3] at this;exact this
  have hs3:w.heap.size<w3.heap.size:=cell_lt r3;clear hl3;go_wp2_with fail;by_cases hlast:i+1=x.cells.length
  ·skip
   have EF:=hide (show unit6 x={ x with cells:=(x.cells.set i Cl0).take i,hand:=(i:Int) } by rw[unhide ES];unfold dropH;rw[if_pos ⟨by simpa using hlast,by simp [Hp.c,hin];rfl⟩]);have g1:((i:Int) == (x.cells.length:Int)-1)=true:=by simp;omega
   have k1:(i:Int)≤(kn:Int):=by omega
   have k0:(0:Int)≤(i:Int):=by omega
   have f13:=(unhide H3).sb.nb.2 13;have hbW:b<w3.heap.size:=(unhide H3).sb.nb.1;have FN:=hide (show ∀W',Ext w3 W'→SAt B (W'.setCell ⟨b,13,none⟩ (.slice (some ⟨bn,0,none⟩) i kn)) b { x with cells:=(x.cells.set i Cl0).take i,hand:=(i:Int) } ar kr v4 v8 br cB cO bn pb pa' pk' kn hd vf' F' vk K role'∧Ext a (W'.setCell ⟨b,13,none⟩ (.slice (some ⟨bn,0,none⟩) i kn)) from fun W' xw=>⟨((unhide H3).ext xw).drop i (by simpa using hlast),((unhide X3).trans xw).setCell (p:=⟨b,13,none⟩) (show a.heap.size≤b by omega) _⟩);clear hlast;go_quiet (fail);obtain⟨d1,hd1⟩:∃m,m=nq:=⟨_,rfl⟩;go_wp2_with fail
   go_region
   all_goals
    go_wp2_with fail;go_ret
    first | exact⟨by rw[unhide EP];rfl,by rw[unhide EF];exact⟨_,_,_,_,_,((unhide FN _ ((Ext.refl _).drewN _)).1).ext (Ext.refl _).drew,(unhide HP3).1,Or.inl ⟨unhide NS,(unhide HP3).2⟩⟩,((unhide FN _ ((Ext.refl _).drewN _)).2).drew⟩ | exact⟨by rw[unhide EP];rfl,by rw[unhide EF];exact⟨_,_,_,_,_,(unhide FN _ ((Ext.refl _).drewN _)).1,(unhide HP3).1,Or.inl ⟨unhide NS,(unhide HP3).2⟩⟩,(unhide FN _ ((Ext.refl _).drewN _)).2⟩
  ·skip
   have EF:=hide (show unit6 x={ x with cells:=x.cells.set i Cl0,hand:=(i:Int) } by rw[unhide ES];unfold dropH;rw[if_neg (fun e=>hlast (by simpa using e.1))]);have g1:((i:Int) == (x.cells.length:Int)-1)=false:=by simp;omega
   go_quiet (fail);go_wp2_with fail;go_ret;exact⟨by rw[unhide EP];rfl,by rw[unhide EF];exact⟨_,_,_,_,_,(unhide H3).ext ((Ext.refl _).drewN _),(unhide HP3).1,Or.inl ⟨unhide NS,(unhide HP3).2⟩⟩,(unhide X3).drewN _⟩
theorem NbAt.start(w:World)(bv bn on n:Nat)(t:TypeId):NbAt ((w.alloc (.map #[] 0)).alloc (.cells #[.pointer (some ⟨bv,0,none⟩),.map (some w.heap.size),.slice none 0 0] t)) w.heap.size (w.heap.size+1) bv w.heap.size bn on n (.slice none 0 0) []:=by
 have hm:((w.alloc (.map #[] 0)).alloc (.cells #[.pointer (some ⟨bv,0,none⟩),.map (some w.heap.size),.slice none 0 0] t)).heap[w.heap.size]?=some (.map #[] 0):=by
  rw[Below.heap_alloc _ _ _ (by simp)];exact heap_alloc_new w _
 exact⟨by simp [go_sem],by simp [go_sem],by simp [go_sem],by simp [go_sem],⟨#[],0,hm,by simp [EntAre]⟩,World.ownsRow_nil _ _ _ _,by simp [Value.ownBlock],by simp [Value.ownBlock],by omega,by omega,Nat.le_refl _,List.nodup_nil,fun i hi=>by cases hi⟩
def WhAt(w:World)(B n:Nat)(O:List Nat):Prop:=(∀i,i<n→∃v,w.cell? ⟨B,i,none⟩=some (iv v)∧(i∈O→v=((O.idxOf i:Nat):Int)))∧B<w.heap.size
theorem WhAt.ext{w w':World}{B n:Nat}{O:List Nat}(h:WhAt w B n O)(e:Ext w w'):WhAt w' B n O:=⟨fun i hi=>let ⟨v,a,b⟩:=h.1 i hi;⟨v,e.keep a,b⟩,Nat.lt_of_lt_of_le h.2 e.size⟩
theorem l2named_any(x:Hp)(y:Wd)(b B:Nat)(O:List Nat)(w:World){ar:Option Addr}{kr:Nat}{ac:Option Addr}{kc:Nat}{ag:Option Addr}{kg:Nat}(h:HAt w b x ar kr ac kc ag kg)(hw:WhAt w B x.cells.length O)(hy:MayMark x y)(ho:y.k=2→tgt x y∈O):
  Calls Tryz.prog 136 #[.pointer (some ⟨b,0,none⟩),.slice (some ⟨B,0,none⟩) x.cells.length x.cells.length,y.v] w fun e w'=>e=.returned (nw x O y).v∧Ext w w':=by
 obtain⟨z,ez⟩:∃z,z=nw x O y:=⟨_,rfl⟩;rw[←ez];have EZ:=hide ez;clear ez;have x1:=((Ext.refl w).alloc (.cells #[iv y.k,iv y.n,iv y.a] 152)).alloc (.cells #[iv 0,iv 0,iv 0] 152);have HH:=hide h;have HW:=hide hw;have MY:=hide hy;clear h hw hy;go_enter Tryz.func136,Tryz.ntmps136;go_wp2_with fail;refine(l1resolve_may x y b _ ((unhide HH).ext x1) (unhide MY)).mono ?_;rintro e w1 ⟨t,rfl,ht,hq⟩;have x2:=x1.trans hq;have r0:=hq.keep (b:=w.heap.size+1) (o:=0) (v:=iv 0) (by simp [go_sem]);have r1:=hq.keep (b:=w.heap.size+1) (o:=1) (v:=iv 0) (by simp [go_sem]);have r2:=hq.keep (b:=w.heap.size+1) (o:=2) (v:=iv 0) (by simp [go_sem]);have hf1:=(bcell hq).2;have z1:w.heap.size+1<w1.heap.size:=cell_lt r0;have hbB:B<w1.heap.size:=Nat.lt_of_lt_of_le (unhide HW).2 x2.size;clear hq;rcases unhide ht with⟨hk,rfl⟩ | ⟨hk,rfl⟩
 ·have e2:z=t:=by rw[unhide EZ];unfold nw;rw[if_neg hk]
  subst e2;have hkb:(z.k == 2)=false:=by simpa using hk
  clear ht;go_wp2_with fail;refine bodyPost_ret (v:=z.v) (by simp [results,Tryz.results136,go_sem,r0,r1,r2,z1]) rfl ⟨rfl,?_⟩
  repeat (first | exact x2 | (with_reducible refine Ext.alloc ?_ _) | refine Ext.setCell ?_ (by show w.heap.size≤w.heap.size+1;omega) _)
 ·have e2:z=⟨2,0,((O.idxOf (tgt x y):Nat):Int)⟩:=by rw[unhide EZ];unfold nw;rw[if_pos hk]
  subst e2;have htl:tgt x y<x.cells.length:=((unhide MY) hk).2.2.2.2.1;obtain⟨v,cv,ev⟩:=(unhide HW).1 _ htl;have cv:=x2.keep cv;obtain⟨q,hqq⟩:∃q,q=tgt x y:=⟨_,rfl⟩;rw[←hqq] at cv htl;rw[←hqq];have q0:(0:Int)≤(q:Int):=by omega
  have q1:(q:Int)<(x.cells.length:Int):=by omega
  have EV:=hide (show v=((O.idxOf q:Nat):Int) by rw[hqq];exact ev (ho hk));have HQ:=hide hqq;clear ev hqq ht hk;go_wp2_with fail;refine bodyPost_ret (v:=.agg #[iv 2,iv 0,iv v]) (by simp [results,Tryz.results136,go_sem,r0,r1,r2,z1]) rfl ⟨by rw[unhide EV,unhide HQ],?_⟩
  repeat (first | exact x2 | (with_reducible refine Ext.alloc ?_ _) | refine Ext.setCell ?_ (by show w.heap.size≤w.heap.size+1;omega) _)
def lkH(x:Hp)(j:Nat):Hp:=(x.regs.take j).foldl shadeW x
theorem lkH_succ(x:Hp)(j:Nat)(h:j<x.regs.length):lkH x (j+1)=shadeW (lkH x j) x.regs[j]:=by
 unfold lkH;rw[List.take_succ_eq_append_getElem h,List.foldl_append];rfl
theorem lkH_all(x:Hp):lkH x x.regs.length=lookH x:=by unfold lkH lookH;rw[List.take_length]
theorem lkH_shd{x:Hp}(s:Snd x)(hp:x.phase=2)(j:Nat):Shd x (lkH x j):=by
 refine(Shd.fold (.inr hp) (x.regs.take j) x (fun y hy=>?_) (Shd.refl s)).1;obtain⟨i,hi,e⟩:=List.mem_iff_getElem.1 (List.mem_of_mem_take hy);rw[←e];exact s.good_reg i hi
structure Rnd(x:Hp):Prop where
 s:Snd x
 c:Marking x→Col x
 k:¬Marking x→Kept x
 m4:x.phase=4→∀i j,i<x.cells.length→(x.c i).st=2→(x.c j).st=1→j<i
 m5:(x.phase=5∨x.phase=6)→∀i j,i<x.cells.length→(x.c i).st≠1→(x.c j).st=1→j<i
 m6:x.phase=6→∀i:Nat,x.hand≤(i:Int)→i<x.cells.length→(x.c i).st=1
 m0:x.phase=0→∀i,i<x.cells.length→(x.c i).st=1
theorem Hp.c_out{x:Hp}{i:Nat}(h:x.cells.length≤i):x.c i=Cl0:=by simp [Hp.c,List.getD_eq_getElem?_getD,h]
theorem st_in{x:Hp}{i:Nat}(h:(x.c i).st=1):i<x.cells.length:=by
 rcases Nat.lt_or_ge i x.cells.length with l | l
 ·exact l
 ·rw[Hp.c_out l] at h;simp [Cl0] at h
theorem Rnd.start{x:Hp}(s:Snd x)(hp:x.phase=0):Rnd (toPh x 1 0):=by
 refine⟨s.begin hp,fun _ i hi hc=>?_,fun h=>(h (.inl rfl)).elim,fun e=>?_,fun e=>?_,fun e=>?_,fun e=>?_⟩
 ·exfalso;have hi':i<x.cells.length:=hi;have hc':(x.c i).color≠0:=hc;have h:=s.cols ⟨by omega,by omega,by omega⟩ i hi';rcases s.r2.1 i hi' with⟨_,b,_⟩ | ⟨_,b⟩ | ⟨_,u⟩
  ·exact hc' b.2.2.2.2.1
  ·exact hc' b.1.2.2.2.2.1
  ·have:=u.2.2.2.2.1;omega
 ·have e':(1:Int)=4:=e;omega
 ·have e':(1:Int)=5∨(1:Int)=6:=e;omega
 ·have e':(1:Int)=6:=e;omega
 ·have e':(1:Int)=0:=e;omega
theorem Rnd.u1{x:Hp}(r:Rnd x)(hp:x.phase=1):Rnd (unit1 x):=by
 obtain⟨o,c,p⟩:=r.s.o1 hp;have s:=r.s.u1 hp;exact⟨s,fun _=>c (r.c (.inl hp)),fun h=>(h p).elim,fun e=>by omega,fun e=>by omega,fun e=>by omega,fun e=>by omega⟩
theorem Rnd.u2{x:Hp}(r:Rnd x)(hp:x.phase=2):Rnd (unit2 x):=by
 obtain⟨o,c,k,p⟩:=r.s.o2 hp;have s:=r.s.u2 hp;have cx:=r.c (.inr hp);exact⟨s,fun h=>c cx (by rcases h with h | h <;> omega),fun h=>k cx (by rcases p with p | p;exact(h (.inr p)).elim;exact p),fun e=>by omega,fun e=>by omega,fun e=>by omega,fun e=>by omega⟩
theorem Rnd.u3{x:Hp}(r:Rnd x)(hp:x.phase=3):Rnd (unit3 x):=by
 obtain⟨o,p⟩:=r.s.o3 hp;have s:=r.s.u3 hp;have kx:=r.k (fun h=>by rcases h with h | h <;> omega);refine⟨s,fun h=>by rcases h with h | h <;> omega,fun _=>o.kept r.s kx,fun e i j hi h2=>?_,fun e=>by omega,fun e=>by omega,fun e=>by omega⟩;unfold unit3 at e hi h2
 split at e
 ·rename_i he;rw[if_pos he] at hi h2;exact(r.s.nomoved (by omega) i hi h2).elim
 ·split at e
  ·have e':x.phase=4:=e;omega
  ·have e':x.phase=4:=e;omega
theorem Snd.live4{x:Hp}(s:Snd x)(hp:x.phase=4){n:Nat}(l:LiveIs x n):LiveIs (unit4 x) n:=by
 have sy:=s.u4 hp;obtain⟨f1,f2,f3⟩:=fstFree_is x;unfold unit4 at sy ⊢
 split
 ·rename_i hle;rw[if_pos hle] at sy;exact(ovr_turn (x:=x) (by omega) 5 0 0 x.rounds).live s sy l
 ·rename_i hlt;rcases lstUsed_is x x.cells.length with⟨e,_⟩ | ⟨f,e,hf,hs,_⟩
  ·omega
  ·have e2:(lstUsed x x.cells.length).toNat=f:=by omega
   rw[e2];rw[e] at hlt;exact s.live4m hp (fstFree x) f (by omega) hf (f3 (by omega)) f2 hs l
theorem Rnd.u4{x:Hp}(r:Rnd x)(hp:x.phase=4):Rnd (unit4 x):=by
 have s:=r.s.u4 hp;have kx:=r.k (fun h=>by rcases h with h | h <;> omega);obtain⟨f1,f2,f3⟩:=fstFree_is x;unfold unit4 at s ⊢
 split
 ·rename_i hle;rw[if_pos hle] at s;have o:=ovr_turn (x:=x) (by omega) 5 0 0 x.rounds;refine⟨s,fun h=>?_,fun _=>o.kept r.s kx,fun e=>?_,fun _ i j hi h2 h1=>?_,fun e=>?_,fun e=>?_⟩
  ·rcases h with h | h
   ·have h':(5:Int)=1:=h;omega
   ·have h':(5:Int)=2:=h;omega
  ·have e':(5:Int)=4:=e;omega
  ·have h1':(x.c j).st=1:=h1;have h2':(x.c i).st≠1:=h2;have hi':i<x.cells.length:=hi;have hj:=st_in h1';rcases lstUsed_is x x.cells.length with⟨_,n⟩ | ⟨f,e,hf,hs,nf⟩
   ·exact(n j hj h1').elim
   ·rw[e] at hle
    have jf:j≤f:=by
     rcases Nat.lt_or_ge f j with q | q
     ·exact(nf j q hj h1').elim
     ·exact q
    rcases r.s.r2.1 i hi' with⟨z,_⟩ | ⟨z,_⟩ | ⟨z,_⟩
    ·have:fstFree x≤i:=by
      rcases Nat.lt_or_ge i (fstFree x) with q | q
      ·exact(f2 i q z).elim
      ·exact q
     have:i≠j:=fun q=>by rw[q] at z;omega
     omega
    ·exact r.m4 hp i j hi' z h1'
    ·exact(h2' z).elim
  ·have e':(5:Int)=6:=e;omega
  ·have e':(5:Int)=0:=e;omega
 ·rename_i hlt;rw[if_neg hlt] at s;rcases lstUsed_is x x.cells.length with⟨e,_⟩ | ⟨f,e,hf,hs,nf⟩
  ·omega
  ·have e2:(lstUsed x x.cells.length).toNat=f:=by omega
   rw[e2] at s ⊢;rw[e] at hlt;have htf:fstFree x<f:=by omega
   have h0:=f3 (by omega);have o:=r.s.o4m hp (fstFree x) f htf hf h0 hs;have hc:=move_c (x:=x) (fstFree x) f htf hf;refine⟨s,fun h=>?_,fun _=>o.kept r.s kx,fun _ i j hi h2 h1=>?_,fun e=>?_,fun e=>?_,fun e=>?_⟩
   ·have h':x.phase=1∨x.phase=2:=h;omega
   ·rw[hc] at h1 h2;by_cases a:j=f
    ·rw[if_pos a] at h1;simp [mvC] at h1
    ·rw[if_neg a] at h1
     have jf:j<f:=by
      by_cases b:j=fstFree x
      ·omega
      ·rw[if_neg b] at h1;have hj:=st_in h1;rcases Nat.lt_or_ge f j with q | q
       ·exact(nf j q hj h1).elim
       ·omega
     by_cases a':i=f
     ·omega
     ·rw[if_neg a'] at h2;by_cases b':i=fstFree x
      ·rw[if_pos b',hs] at h2;omega
      ·rw[if_neg b'] at h2;have hi':i<x.cells.length:=by simpa [moveH] using hi
       have:=r.m4 hp i f hi' h2 hs;omega
   ·have e':x.phase=5∨x.phase=6:=e;omega
   ·have e':x.phase=6:=e;omega
   ·have e':x.phase=0:=e;omega
theorem Rnd.u5{x:Hp}(r:Rnd x)(hp:x.phase=5):Rnd (unit5 x):=by
 obtain⟨o,p,st,hl,hd⟩:=r.s.o5 hp;have s:=r.s.u5 hp;have kx:=r.k (fun h=>by rcases h with h | h <;> omega);refine⟨s,fun h=>by rcases h with h | h <;> omega,fun _=>o.kept r.s kx,fun e=>by omega,fun _ i j hi h2 h1=>?_,fun e i h1 h2=>?_,fun e=>by omega⟩
 ·rw[hl] at hi;rw[st] at h1 h2;exact r.m5 (.inl hp) i j hi h2 h1
 ·have:=hd e;omega
theorem Snd.f6{x:Hp}(s:Snd x)(hp:x.phase=6)(i:Nat)(hi:x.hand=(i:Int)+1):(unit6 x).regs=x.regs∧(unit6 x).phase=6∧(unit6 x).hand=i∧((unit6 x).cells.length=x.cells.length∨((unit6 x).cells.length=i∧i+1=x.cells.length∧(x.c i).st≠1))∧
  (∀q,q<(unit6 x).cells.length→q≠i→(unit6 x).c q=x.c q)∧(i<(unit6 x).cells.length→(x.c i).st=1→(unit6 x).c i=x.c i)∧(i<(unit6 x).cells.length→(x.c i).st≠1→((unit6 x).c i).st≠1∧i+1<x.cells.length):=by
 have hh:=s.r1.hand;have h0:¬x.hand=0:=by omega
 have ei:(x.hand-1).toNat=i:=by omega
 have hil:i<x.cells.length:=by omega
 unfold unit6;rw[if_neg h0,ei]
 have sc:∀q,(shutH x i).c q=if (x.c i).st=2∧q=i then Cl0 else x.c q:=fun q=>by
  unfold shutH;by_cases e:(x.c i).st=2
  ·rw[if_pos e];show(x.cells.set i Cl0).getD q Cl0=_;rw[cs_set];by_cases b:q=i
   ·rw[if_pos ⟨b,hil⟩,if_pos ⟨e,b⟩]
   ·rw[if_neg (fun h=>b h.1),if_neg (fun h=>b h.2)];rfl
  ·rw[if_neg e,if_neg (fun h=>e h.1)];rfl
 have sl:(shutH x i).cells.length=x.cells.length:=by unfold shutH;split <;> simp
 have ci:((shutH x i).c i).st=if (x.c i).st=1 then 1 else 0:=by
  rw[sc];rcases s.r2.1 i hil with⟨z,_⟩ | ⟨z,_⟩ | ⟨z,_⟩
  ·rw[z];simp [z]
  ·rw[z];simp [Cl0]
  ·rw[z];simp [z]
 by_cases d:i+1=(shutH x i).cells.length∧((shutH x i).c i).st=0
 ·unfold dropH;rw[if_pos d];have nu:(x.c i).st≠1:=fun e=>by have:=d.2;rw[ci,if_pos e] at this;omega
  have yl:({ shutH x i with cells:=(shutH x i).cells.take i }:Hp).cells.length=i:=by
   show((shutH x i).cells.take i).length=i;rw[List.length_take];omega
  refine⟨rfl,hp,rfl,.inr ⟨yl,by omega,nu⟩,fun q hq hne=>?_,fun h=>absurd (Nat.lt_of_lt_of_eq h yl) (Nat.lt_irrefl _),fun h=>absurd (Nat.lt_of_lt_of_eq h yl) (Nat.lt_irrefl _)⟩;have hq':q<i:=Nat.lt_of_lt_of_eq hq yl
  have e:((shutH x i).cells.take i).getD q Cl0=(shutH x i).c q:=by
   simp only [Hp.c,List.getD_eq_getElem?_getD,List.getElem?_take,if_pos hq']
  show((shutH x i).cells.take i).getD q Cl0=_;rw[e,sc,if_neg (fun h=>by omega)]
 ·unfold dropH;rw[if_neg d];refine⟨rfl,hp,rfl,.inl sl,fun q _ hne=>by rw[sc,if_neg (fun h=>hne h.2)],fun _ e=>by rw[sc,if_neg (fun h=>by omega)],fun _ e=>?_⟩;have z:((shutH x i).c i).st=0:=by rw[ci,if_neg e]
  refine⟨by omega,?_⟩;rcases Nat.lt_or_ge (i+1) x.cells.length with q | q
  ·exact q
  ·exact(d ⟨by omega,z⟩).elim
theorem Snd.o6u{x:Hp}(s:Snd x)(hp:x.phase=6):Ovr x (unit6 x) (fun i=>i):=by
 have hh:=s.r1.hand;by_cases h0:x.hand=0
 ·unfold unit6;rw[if_pos h0];exact ovr_turn (x:=x) (by omega) 0 0 0 (if x.rounds<1000000000 then x.rounds+1 else x.rounds)
 ·obtain⟨i,hi⟩:∃i:Nat,x.hand=(i:Int)+1:=⟨(x.hand-1).toNat,by omega⟩;obtain⟨f1,f2,f3,f4,f5,f6,f7⟩:=s.f6 hp i hi;refine s.o6 hp i f1 (fun q hq hs=>?_) f5 f6 (fun a b=>(f7 a b).1) (by omega);rcases f4 with e | ⟨e1,e2,e3⟩
  ·omega
  ·have:q≠i:=fun e=>e3 (e ▸ hs)
   omega
theorem Rnd.u6{x:Hp}(r:Rnd x)(hp:x.phase=6):Rnd (unit6 x):=by
 have s:=r.s.u6 hp;have kx:=r.k (fun h=>by rcases h with h | h <;> omega);have hh:=r.s.r1.hand;have o:=r.s.o6u hp;by_cases h0:x.hand=0
 ·have e:(unit6 x).phase=0∧(unit6 x).cells=x.cells:=by unfold unit6;rw[if_pos h0];exact⟨rfl,rfl⟩
  refine⟨s,fun h=>by rcases h with h | h <;> omega,fun _=>o.kept r.s kx,fun h=>by omega,fun h=>by omega,fun h=>by omega,fun _ i hi=>?_⟩;rw[e.2] at hi;have:(unit6 x).c i=x.c i:=by unfold Hp.c;rw[e.2]
  rw[this];exact r.m6 hp i (by omega) hi
 ·obtain⟨i,hi⟩:∃i:Nat,x.hand=(i:Int)+1:=⟨(x.hand-1).toNat,by omega⟩;obtain⟨f1,f2,f3,f4,f5,f6,f7⟩:=r.s.f6 hp i hi
  have up:∀q,q<(unit6 x).cells.length→(((unit6 x).c q).st=1↔(x.c q).st=1):=fun q hq=>by
   by_cases e:q=i
   ·subst e;by_cases u:(x.c q).st=1
    ·rw[f6 hq u]
    ·exact⟨fun h=>((f7 hq u).1 h).elim,fun h=>(u h).elim⟩
   ·rw[f5 q hq e]
  refine⟨s,fun h=>by rcases h with h | h <;> omega,fun _=>o.kept r.s kx,fun h=>by omega,fun _ a j ha h2 h1=>?_,fun _ a h1 h2=>?_,fun h=>by omega⟩
  ·have hj:=st_in h1;exact r.m5 (.inr hp) a j (by omega) (fun e=>h2 ((up a ha).2 e)) ((up j hj).1 h1)
  ·rw[f3] at h1;rw[up a h2];by_cases e:a=i
   ·subst e;by_cases u:(x.c a).st=1
    ·exact u
    ·have n1:=(f7 h2 u).2;have:=r.m5 (.inr hp) a (a+1) (by omega) u (r.m6 hp (a+1) (by omega) n1);omega
   ·exact r.m6 hp a (by omega) (by omega)
theorem Rnd.unit{x:Hp}(r:Rnd x):Rnd (unitH x):=by
 unfold unitH
 split
 ·rename_i e;exact r.u1 e
 split
 ·rename_i e;exact r.u2 e
 split
 ·rename_i e;exact r.u3 e
 split
 ·rename_i e;exact r.u4 e
 split
 ·rename_i e;exact r.u5 e
 split
 ·rename_i e;exact r.u6 e
 ·exact r
theorem Rnd.run{x:Hp}(r:Rnd x):∀k,Rnd (itU k x)
 | 0=>r
 | k+1=>(Rnd.run r k).unit
theorem Snd.liveU{x:Hp}(s:Snd x){n:Nat}(l:LiveIs x n):LiveIs (unitH x) n:=by
 have sy:=s.unit;unfold unitH at sy ⊢
 split
 ·rename_i e;exact(s.o1 e).1.live s (s.u1 e) l
 split
 ·rename_i e;exact(s.o2 e).1.live s (s.u2 e) l
 split
 ·rename_i e;exact(s.o3 e).1.live s (s.u3 e) l
 split
 ·rename_i e;exact s.live4 e l
 split
 ·rename_i e;exact(s.o5 e).1.live s (s.u5 e) l
 split
 ·rename_i e;exact(s.o6u e).live s (s.u6 e) l
 ·exact l
theorem Snd.liveN{x:Hp}(s:Snd x){n:Nat}(l:LiveIs x n):∀k,LiveIs (Go.Proofs.YtddkhnclmeikfaaGreat.itU k x) n
 | 0=>l
 | k+1=>(s.itU k).liveU (Snd.liveN s l k)
theorem Snd.ovrU{x:Hp}(s:Snd x):∃φ,Ovr x (unitH x) φ:=by
 unfold unitH
 split
 ·rename_i e;exact⟨_,(s.o1 e).1⟩
 split
 ·rename_i e;exact⟨_,(s.o2 e).1⟩
 split
 ·rename_i e;exact⟨_,(s.o3 e).1⟩
 split
 ·rename_i hp;obtain⟨f1,f2,f3⟩:=fstFree_is x;unfold unit4
  split
  ·exact⟨_,ovr_turn (x:=x) (by omega) 5 0 0 x.rounds⟩
  ·rename_i hlt;rcases lstUsed_is x x.cells.length with⟨e,_⟩ | ⟨f,e,hf,hs,_⟩
   ·omega
   ·have e2:(lstUsed x x.cells.length).toNat=f:=by omega
    rw[e2];rw[e] at hlt;exact⟨_,s.o4m hp (fstFree x) f (by omega) hf (f3 (by omega)) hs⟩
 split
 ·rename_i e;exact⟨_,(s.o5 e).1⟩
 split
 ·rename_i e;exact⟨_,s.o6u e⟩
 ·exact⟨_,ovr_un rfl rfl (fun _=>rfl) (fun _ g=>g)⟩
def Wd0:Wd:=⟨0,0,0⟩
def Hp.r(x:Hp)(i:Nat):Wd:=x.regs.getD i Wd0
theorem Hp.r_eq(x:Hp)(i:Nat)(h:i<x.regs.length):x.regs[i]=x.r i:=by simp [Hp.r,h]
def Hp.at(x:Hp)(i:Nat):Nat:=(x.r i).a.toNat
def keyC(c:Cl)(k:Nat)(y:Wd):Cl:={ c with prs:=c.prs.set k ⟨y,(c.p k).val⟩ }
def valC(c:Cl)(k:Nat)(y:Wd):Cl:={ c with prs:=c.prs.set k ⟨(c.p k).key,y⟩ }
def setcH(x:Hp)(i:Nat)(c:Cl):Hp:={ x with cells:=x.cells.set i c }
def shortC(c:Cl)(n:Nat):Cl:={ c with prs:=c.prs.take n }
def shortH(x:Hp)(i n:Nat):Hp:={ x with cells:=x.cells.set i (shortC (x.c i) n),used:=x.used-((x.c i).prs.length-n:Nat),sub:=if scanI x=(i:Int)∧(n:Int)<x.sub then n else x.sub }
def weakC(c:Cl)(n:Int):Cl:={ c with weak:=n }
def lastC(c:Cl)(n:Int):Cl:={ c with last:=n }
def HalfIs(x:Hp)(f c:Nat)(y:Hp)(cd nm:Int)(R:Nat→Prop):Prop:=
 ((x.r f).k≠2∧y=x∧cd=2∧nm=0)∨((x.r f).k=2∧(x.c (x.at f)).prs.length≤c∧y=x∧cd=3∧nm=0)∨((x.r f).k=2∧c<(x.c (x.at f)).prs.length∧R (x.at f)∧cd=0∧nm=0)
def CellIs(x:Hp)(f:Nat)(y:Hp)(cd nm:Int)(R:Nat→Prop):Prop:=((x.r f).k≠2∧y=x∧cd=2∧nm=0)∨((x.r f).k=2∧R (x.at f))
def MakeIs(x:Hp)(a b c:Nat)(y:Hp)(cd nm:Int):Prop:=nm=0∧
 ((x.born=1000000000∧y=x∧cd=4)∨(x.born≠1000000000∧∃z,RoomIs x (1+c) z∧((fitsB z (1+c)=false∧y=z∧cd=4)∨(fitsB z (1+c)=true∧cd=0∧PaceIs (regTo (makeH z b c) a ⟨2,0,fstFree z⟩) (1+c) y))))
def GrowIs(x:Hp)(a c i:Nat)(y:Hp)(cd nm:Int):Prop:=nm=0∧
 ((200<(x.c i).prs.length+c∧y=x∧cd=5)∨((x.c i).prs.length+c≤200∧∃z,RoomIs x c z∧((fitsB z c=false∧y=z∧cd=4)∨(fitsB z c=true∧cd=0∧PaceIs (growH z (z.at a) c) c y))))
def wdB(a b:Wd):Bool:=a.k == b.k && (a.n == b.n && a.a == b.a)
def SumIs(x:Hp)(P:Nat→Prop)(nm:Int):Prop:=∃p:Nat→Bool,(∀i,p i=true↔P i)∧nm=(sumTo x p x.cells.length:Nat)
def TellIs(x:Hp)(a:Nat)(y:Hp)(nm:Int):Prop:=(DueTo x x.cells.length (-1)∧y=regTo x a Wd0∧nm=0)∨∃i:Nat,DueTo x x.cells.length (i:Int)∧y=regTo (setcH x i (lastC (x.c i) 3)) a ⟨2,0,i⟩∧nm=1
def DoR(x:Hp)(a b c:Nat)(n:Int)(y:Hp)(cd nm:Int):Nat→Prop
 | 1=>MakeIs x a b c y cd nm
 | 2=>y=regTo x a ⟨1,n,0⟩∧cd=0∧nm=0
 | 3=>y=regTo x a Wd0∧cd=0∧nm=0
 | 4=>y=regTo x a (x.r b)∧cd=0∧nm=0
 | 5=>HalfIs x b c y cd nm fun i=>y=regTo x a (resW x ((x.c i).p c).key)
 | 6=>HalfIs x b c y cd nm fun i=>y=regTo x a (resW x ((x.c i).p c).val)
 | 7=>HalfIs x a c y cd nm fun i=>y=shadeW (setcH x i (keyC (x.c i) c (x.r b))) (x.r b)
 | 8=>HalfIs x a c y cd nm fun i=>y=shadeW (setcH x i (valC (x.c i) c (x.r b))) (x.r b)
 | 9=>CellIs x a y cd nm fun i=>GrowIs x a c i y cd nm
 | 10=>CellIs x a y cd nm fun i=>y=shortH x i c∧cd=0∧nm=0
 | 11=>CellIs x a y cd nm fun i=>y=setcH x i (weakC (x.c i) c)∧cd=0∧nm=0
 | 12=>CellIs x a y cd nm fun i=>y=(if c=1 then shadeH (setcH x i (lastC (x.c i) c)) i else setcH x i (lastC (x.c i) c))∧cd=0∧nm=0
 | 13=>y=x∧cd=0∧nm=if wdB (x.r a) (x.r b)=true then 1 else 0
 | 14=>y=x∧cd=0∧nm=(x.r a).k
 | 15=>y=x∧(((x.r a).k≠1∧cd=2∧nm=0)∨((x.r a).k=1∧cd=0∧nm=(x.r a).n))
 | 16=>CellIs x a y cd nm fun i=>y=x∧cd=0∧nm=(x.c i).kind
 | 17=>CellIs x a y cd nm fun i=>y=x∧cd=0∧nm=((x.c i).prs.length:Nat)
 | 18=>cd=0∧∃H:Nat→Bool,(∀i,H i=true↔Held x i)∧y=settleH x H∧nm=(dueN x H x.cells.length:Nat)
 | 19=>cd=0∧TellIs x a y nm
 | 20=>y=x∧cd=0∧SumIs x (Held x) nm
 | 21=>y=x∧cd=0∧SumIs x (Reached x) nm
 | 22=>cd=0∧nm=0∧∃k,StepIs (stepH x c) c k∧y=itU k (stepH x c)
 | 23=>y=paceTo x b c∧cd=0∧nm=0
 | 24=>cd=0∧nm=0∧RdIs x y
 | _=>False
def DoIs(x:Hp)(op a b c n:Int)(y:Hp)(cd nm:Int):Prop:=(actOkB op a b c n=false∧y=x∧cd=1∧nm=0)∨(actOkB op a b c n=true∧DoR x a.toNat b.toNat c.toNat n y cd nm op.toNat)
def Kf(len:Nat→Nat)(k0:Int):Nat→Int
 | 0=>k0
 | q+1=>Kf len k0 q+4+6*(len q:Int)
theorem Kf_bd{len:Nat→Nat}{k0:Int}(h0:0≤k0)(q:Nat)(hl:∀p,p<q→len p≤200):0≤Kf len k0 q∧Kf len k0 q≤k0+1204*q:=by
 induction q with
 | zero=>simp [Kf,h0]
 | succ q ih=>
  have:=ih (fun p hp=>hl p (by omega));have:=hl q (by omega);simp only [Kf];omega
structure NMk(w:World)(B n:Nat)(len pb:Nat→Nat)(K:Nat→Int)(k:Nat):Prop where
 a:∀q,q<n→w.cell? ⟨B,q*5+4,none⟩=some (.slice (some ⟨pb q,0,none⟩) (len q) (len q))
 o:∀q,q<n→∀i,i<4→Open w B (q*5+i)
 p:∀q,q<n→∀j,j<6*len q→Open w (pb q) (0+j)
 m:∀q,q<k→(∀i,i<4→w.cell? ⟨B,q*5+i,none⟩=some (iv (K q+i)))∧∀j,j<6*len q→w.cell? ⟨pb q,0+j,none⟩=some (iv (K q+4+j))
theorem NMk.ext{w w':World}{B n k:Nat}{len pb:Nat→Nat}{K:Nat→Int}(h:NMk w B n len pb K k)(e:Ext w w'):NMk w' B n len pb K k:=
 ⟨fun q hq=>e.keep (h.a q hq),fun q hq i hi=>(h.o q hq i hi).ext e,fun q hq j hj=>(h.p q hq j hj).ext e,fun q hq=>⟨fun i hi=>e.keep ((h.m q hq).1 i hi),fun j hj=>e.keep ((h.m q hq).2 j hj)⟩⟩
def zp(p:Pr):Bool:=p.key.k == 0 && p.key.n == 0 && p.key.a == 0 && p.val.k == 0 && p.val.n == 0 && p.val.a == 0
def Mt(x:Hp)(F:Nat→Nat)(m:Nat)(u:Wd):Option Nat→Prop
 | none=>u.k≠2
 | some j=>j<m∧u.k=2∧tgt x u=F j
structure Sm(x:Hp)(F:Nat→Nat)(m n:Nat)(wk:Int)(R K V:Nat→Option Nat)(U:Int):Prop where
 s:Snd x
 m0:0<m
 gd:∀j,j<m→Good x (F j)
 ij:∀i j,i<m→j<m→F i=F j→i=j
 rg:∀k,k<16→Mt x F m (x.r k) (R k)
 l0:(x.c (F 0)).prs.length=n
 wk:(x.c (F 0)).weak=wk
 lj:∀j,0<j→j<m→(x.c (F j)).prs.length=0
 ky:∀p,p<n→Mt x F m ((x.c (F 0)).p p).key (K p)
 vl:∀p,p<n→Mt x F m ((x.c (F 0)).p p).val (V p)
 ns:∀i,¬Speaks (x.c i)
 per:x.per=0
 rm:x.room=1000
 us:x.used≤U
 bn:x.born≤U
theorem Snd.n16{x:Hp}(s:Snd x):x.regs.length=16:=by have:=s.r1.regs;omega
theorem Mt.over{x y:Hp}{F:Nat→Nat}{m:Nat}{φ:Nat→Nat}{u v:Wd}(h:v.k=u.k∧(u.k=2→tgt y v = φ (tgt x u))):∀{e:Option Nat},Mt x F m u e→Mt y (fun j=>φ (F j)) m v e
 | none,q=>by show v.k≠2;rw[h.1];exact q
 | some j,q=>⟨q.1,by rw[h.1];exact q.2.1,by rw[h.2 q.2.1,q.2.2]⟩
theorem not_speaks{y:Hp}(t:Snd y)(h:∀i,Good y i→¬Speaks (y.c i))(i:Nat):¬Speaks (y.c i):=fun sp=>by
 rcases Nat.lt_or_ge i y.cells.length with l | l
 ·exact h i (good_want t.r4 i l (speaks_used t.r2 i l sp) sp) sp
 ·rw[Hp.c_out l] at sp;unfold Speaks Cl0 at sp;rcases sp with e | e <;> simp at e
def Rst(x y:Hp):Prop:=y.per=x.per∧y.room=x.room∧y.born=x.born∧y.used≤x.used
theorem Rst.refl(x:Hp):Rst x x:=⟨rfl,rfl,rfl,Int.le_refl _⟩
theorem Rst.trans{x y z:Hp}(h:Rst x y)(k:Rst y z):Rst x z:=⟨k.1.trans h.1,k.2.1.trans h.2.1,k.2.2.1.trans h.2.2.1,Int.le_trans k.2.2.2 h.2.2.2⟩
theorem rst_shade(x:Hp)(i:Nat):Rst x (shadeH x i):=by unfold shadeH;split <;> exact⟨rfl,rfl,rfl,Int.le_refl _⟩
theorem rst_shadeW(x:Hp)(u:Wd):Rst x (shadeW x u):=by
 unfold shadeW;split
 ·exact rst_shade _ _
 ·exact Rst.refl _
theorem rst_fold:∀(L:List Wd) (x:Hp),Rst x (L.foldl shadeW x)
 | [],x=>Rst.refl x
 | u::L,x=>(rst_shadeW x u).trans (rst_fold L (shadeW x u))
theorem rst_unit(x:Hp):Rst x (unitH x):=by
 unfold unitH
 split
 ·unfold unit1
  split
  ·exact Rst.refl x
  ·dsimp only
   split
   ·exact rst_shade x _
   ·exact Rst.refl x
 split
 ·unfold unit2
  split
  ·split
   ·exact(rst_shadeW x _).trans (rst_shadeW _ _)
   ·exact Rst.refl x
  ·have:=rst_fold x.regs x;unfold lookH
   split
   ·exact this
   ·exact this
 split
 ·unfold unit3
  split
  ·exact Rst.refl x
  ·split
   ·exact⟨rfl,rfl,rfl,by show x.used-(1+((x.c x.hand.toNat).prs.length:Int))≤x.used;omega⟩
   ·exact Rst.refl x
 split
 ·unfold unit4
  split
  ·exact Rst.refl x
  ·exact Rst.refl x
 split
 ·unfold unit5
  split
  ·exact Rst.refl x
  ·split <;> exact Rst.refl x
 split
 ·unfold unit6
  split
  ·exact Rst.refl x
  ·unfold dropH
   split <;> exact Rst.refl x
 ·exact Rst.refl x
theorem Sm.ovr{x y:Hp}{F:Nat→Nat}{m n:Nat}{wk:Int}{R K V:Nat→Option Nat}{U:Int}{φ:Nat→Nat}(h:Sm x F m n wk R K V U)(o:Ovr x y φ)(t:Snd y)(r:Rst x y)(rc:∀j,j<m→Reached x (F j)):Sm y (fun j=>φ (F j)) m n wk R K V U where
 s:=t
 m0:=h.m0
 gd:=fun j hj=>Reached.good t.r2 t.r4 (o.to h.s (rc j hj))
 ij:=fun i j hi hj e=>h.ij i j hi hj (o.ij _ _ (h.gd i hi) (h.gd j hj) e)
 rg:=fun k hk=>by
  have a:k<x.regs.length:=by rw[h.s.n16];exact hk
  have b:k<y.regs.length:=by rw[t.n16];exact hk
  have:=o.rg k a b;rw[Hp.r_eq x k a,Hp.r_eq y k b] at this;exact(h.rg k hk).over this
 l0:=by rw[(o.g _ (h.gd 0 h.m0)).2.2.2];exact h.l0
 wk:=by rw[o.wk _ (h.gd 0 h.m0)];exact h.wk
 lj:=fun j a b=>by rw[(o.g _ (h.gd j b)).2.2.2];exact h.lj j a b
 ky:=fun p hp=>(h.ky p hp).over (o.ky _ p (h.gd 0 h.m0) (by rw[h.l0];exact hp))
 vl:=fun p hp=>(h.vl p hp).over (o.vl _ p (h.gd 0 h.m0) (by rw[h.l0];exact hp))
 ns:=not_speaks t fun j gj sp=>by
  obtain⟨i,gi,rfl⟩:=o.b j gj;exact h.ns i (by unfold Speaks at sp ⊢;rw[←(o.g i gi).2.2.1];exact sp)
 per:=r.1.trans h.per
 rm:=r.2.1.trans h.rm
 us:=Int.le_trans r.2.2.2 h.us
 bn:=by rw[r.2.2.1];exact h.bn
def Rch(m n:Nat)(R K V:Nat→Option Nat):Prop:=R 0=some 0∧∀j,0<j→j<m→(∃k,k<16∧R k=some j)∨∃p,p<n∧(K p=some j∨V p=some j)
theorem Sm.reached{x:Hp}{F:Nat→Nat}{m n:Nat}{wk:Int}{R K V:Nat→Option Nat}{U:Int}(h:Sm x F m n wk R K V U)(c:Rch m n R K V)(j:Nat)(hj:j<m):Reached x (F j):=by
 have reg:∀k j,k<16→R k=some j→Reached x (F j):=fun k j hk e=>by
  have a:k<x.regs.length:=by rw[h.s.n16];exact hk
  have q:=h.rg k hk;rw[e] at q;rw[←q.2.2,←Hp.r_eq x k a];exact Reached.reg k a (by rw[Hp.r_eq x k a];exact q.2.1)
 have r0:=reg 0 0 (by omega) c.1;by_cases e:j=0
 ·rw[e];exact r0
 ·rcases c.2 j (by omega) hj with⟨k,hk,e⟩ | ⟨p,hp,e | e⟩
  ·exact reg k j hk e
  ·have q:=h.ky p hp;rw[e] at q;rw[←q.2.2];exact Reached.key _ p r0 (by rw[h.l0];exact hp) q.2.1
  ·have q:=h.vl p hp;rw[e] at q;rw[←q.2.2];exact Reached.val _ p r0 (by rw[h.l0];exact hp) q.2.1
theorem Sm.units{x:Hp}{F:Nat→Nat}{m n:Nat}{wk:Int}{R K V:Nat→Option Nat}{U:Int}(h:Sm x F m n wk R K V U)(c:Rch m n R K V):∀k,∃G,Sm (itU k x) G m n wk R K V U
 | 0=>⟨F,h⟩
 | k+1=>by
  obtain⟨G,g⟩:=Sm.units h c k;obtain⟨φ,o⟩:=g.s.ovrU;exact⟨_,g.ovr o g.s.unit (rst_unit _) (g.reached c)⟩
theorem Sm.step{x:Hp}{F:Nat→Nat}{m n:Nat}{wk:Int}{R K V:Nat→Option Nat}{U:Int}(h:Sm x F m n wk R K V U)(c:Rch m n R K V)(a k:Nat):∃G,Sm (itU k (stepH x a)) G m n wk R K V U:=by
 have q:∃G,Sm (stepH x a) G m n wk R K V U:=by
  have t:=h.s.stepH a;unfold stepH at t ⊢
  split
  ·rename_i e;rw[if_pos e] at t;exact⟨_,h.ovr (ovr_turn (x:=x) (by omega) 1 0 0 x.rounds) t (Rst.refl x) (h.reached c)⟩
  ·exact⟨F,h⟩
 obtain⟨G,g⟩:=q;exact g.units c k
theorem Sm.node{x:Hp}{F:Nat→Nat}{m n:Nat}{wk:Int}{R K V:Nat→Option Nat}{U:Int}(h:Sm x F m n wk R K V U){i:Nat}(hr:Reached x i):∃j,j<m∧i=F j:=by
 have mt:∀u e,Mt x F m u e→u.k=2→∃j,j<m∧tgt x u=F j:=fun u e q hk=>by
  cases e with
  | none=>exact(q hk).elim
  | some j=>exact⟨j,q.1,q.2.2⟩
 refine hr (fun i=>∃j,j<m∧i=F j) (fun k hk e=>?_) (fun i _ _ sp=>(h.ns i sp).elim) (fun i p ⟨j,hj,e⟩ hp hk=>?_) (fun i p ⟨j,hj,e⟩ hp hk=>?_)
 ·rw[Hp.r_eq x k hk] at e ⊢;exact mt _ _ (h.rg k (by rw[←h.s.n16];exact hk)) e
 ·subst e;by_cases z:j=0
  ·subst z;rw[h.l0] at hp;exact mt _ _ (h.ky p hp) hk
  ·rw[h.lj j (by omega) hj] at hp;omega
 ·subst e;by_cases z:j=0
  ·subst z;rw[h.l0] at hp;exact mt _ _ (h.vl p hp) hk
  ·rw[h.lj j (by omega) hj] at hp;omega
theorem Snd.reg{x:Hp}(s:Snd x)(f:Nat)(hf:f<16):Leads x (x.r f) False:=by
 have h:=s.r4.1 f (by rw[s.r1.regs];exact hf);rw[Hp.r_eq] at h;exact h
theorem Snd.at{x:Hp}(s:Snd x)(f:Nat)(hf:f<16)(h2:(x.r f).k=2):(x.r f).n=0∧(x.r f).a=(x.at f:Int)∧x.at f<x.cells.length∧(x.c (x.at f)).st=1∧¬Doomed x (x.at f):=by
 have h:=s.reg f hf;have h1:=h.1;unfold Formed at h1;have ha:(x.r f).a=((x.r f).a.toNat:Int):=by omega
 rcases h.2 h2 with o | o
 ·exact o.2.elim
 ·exact⟨by omega,ha,by unfold Hp.at;omega,o.1,o.2⟩
end Go.Proofs.YtddkhnclmeikfaaGreat
