import Derived.Test.YtddkhnclmeikfaaGreatOw
import Derived.Test.YtddkhnclmeikfaaGreatQe
set_option maxRecDepth 100000
set_option maxHeartbeats 4000000
namespace Go.Proofs.YtddkhnclmeikfaaGreat
open Go.RowKit
attribute [local go_sem ↓] Go.wp_at_zero Go.wp_at_succ
abbrev zcO:Obj:=.cells #[iv 0,iv 0,iv 0,iv 0,iv 0,iv 0,iv 0,.slice none 0 0] 62
abbrev nodeO(n qc:Nat):Obj:=.cells #[iv n,.pointer (some ⟨qc,0,none⟩)] 124
theorem appN_run(W1:World)(ty:TypeId)(bn n kn qc ad c:Nat)(hb:NdB W1 bn kn)(hk:n+1≤kn)(h0:W1.cell? ⟨ad,0,none⟩=some (iv n))(h1:W1.cell? ⟨ad,1,none⟩=some (.pointer (some ⟨qc,0,none⟩))):
  (Builtin.append_ #[117,117] ty #[.slice (some ⟨bn,0,none⟩) n kn,.slice (some ⟨ad,0,none⟩) 1 c]).run Tryz.prog W1=.ok (.slice (some ⟨bn,0,none⟩) (n+1) kn) (W1.setCells bn (n*2) [iv n,.pointer (some ⟨qc,0,none⟩)]):=by
 obtain⟨i0,hi0,hz1⟩:∃i,Tryz.prog.info? 124=some i∧i.size=2:=by
  have:=infoNode2;cases h:Tryz.prog.info? 124 with
  | none=>rw[h] at this;simp at this
  | some i=>rw[h] at this;simp at this;exact⟨i,rfl,this.2.1⟩
 have hrun:=run_append_room_cells (P:=Tryz.prog) W1 117 ty 124 i0 Tryz.underlying117 hi0 bn 0 n kn ⟨ad,0,none⟩ 1 c [iv n,.pointer (some ⟨qc,0,none⟩)] (by rw[hz1];rfl) (fun j u hj=>by
  rw[addr_add]
  match j,hj with
  | 0,hj=>simp at hj;rw[←hj];exact h0
  | 1,hj=>simp at hj;rw[←hj];exact h1) (fun u hu=>by
  simp at hu;rcases hu with rfl | rfl <;> rfl) hk (fun j hj=>by
  have hj:j<2:=hj;obtain⟨⟨u,hu⟩,_⟩:=hb.2 (0+n*i0.size+j) (by rw[hz1];omega);rw[hu];rfl) (fun j hj=>by
  have hj:j<2:=hj;exact(hb.2 (0+n*i0.size+j) (by rw[hz1];omega)).2)
 rw[hz1,Nat.zero_add] at hrun;exact hrun
theorem frozen_put(b:Nat):∀(vs:List Value) (o:Nat) (w:World) (j:Nat),(w.setCells b o vs).frozen? ⟨b,j,none⟩=w.frozen? ⟨b,j,none⟩
 | [],_,_,_=>rfl
 | v::r,o,w,j=>(frozen_put b r (o+1) (w.setCell ⟨b,o,none⟩ v) j).trans (World.frozen?_setCell _ _ _ _)
theorem SAt.newn[Inhabited ProtD]{B:Nat}{w:World}{b:Nat}{x:Hp}{ar:Option Addr}{kr:Nat}{v4 v8:Value}{br bn:Nat}{cB cO:Nat→Nat}{pb:Nat→Nat}{pa:Nat→Option Addr}{pk:Nat→Nat}{kn hd:Nat}{vf:Value}{F:List Int}{vk:Value}{K:List Nat}{role:Nat→Nat}(h:SAt B w b x ar kr v4 v8 br cB cO bn pb pa pk kn hd vf F vk K role)(r0:0<x.regs.length)(hzn:(default:ProtD).z bn=none)(hkn:x.cells.length+1≤kn)(W1:World)(e:Ext w W1)(qc:Nat)(hq:w.heap.size≤qc)(ob:W1.heap[qc]?=some zcO):
  SAt B ((W1.setCells bn (x.cells.length*2) [iv x.cells.length,.pointer (some ⟨qc,0,none⟩)]).setCell ⟨b,13,none⟩ (.slice (some ⟨bn,0,none⟩) (x.cells.length+1) kn)) b { x with cells:=x.cells++[Cl0] } ar kr v4 v8 br (fun q=>if q=x.cells.length then qc else cB q) (fun q=>if q=x.cells.length then 0 else cO q) bn pb (fun q=>if q=x.cells.length then none else pa q) (fun q=>if q=x.cells.length then 0 else pk q) kn hd vf F vk K (fun d=>if w.heap.size≤d then 3 else role d):=by
 have g:=h.ext e;have nnb:bn≠b:=fun u=>by have h1:=h.sp.n;have h2:=h.sp.b;rw[u] at h1;omega
 have hbn:=h.sb.lo.2.2.1;have hbb:=h.sb.nb.1;have qn:qc≠bn:=fun u=>by omega
 have qb:qc≠b:=fun u=>by omega
 have o1:Only (fun q=>q=bn∨q=b) W1 (W1.setCells bn (x.cells.length*2) [iv x.cells.length,.pointer (some ⟨qc,0,none⟩)]):=put_only (S:=fun q=>q=bn∨q=b) (.inl rfl) (Only.refl _ W1);have o2:=Only.setCell o1 (p:=⟨b,13,none⟩) (.inr rfl) (.slice (some ⟨bn,0,none⟩) (x.cells.length+1) kn);have fb:(W1.setCells bn (x.cells.length*2) [iv x.cells.length,.pointer (some ⟨qc,0,none⟩)]).heap[b]?=W1.heap[b]?:=(put_only (S:=fun q=>q=bn) rfl (Only.refl _ W1)).block b g.sb.nb.1 (fun u=>nnb u.symm)
 have cq:∀j,((W1.setCells bn (x.cells.length*2) [iv x.cells.length,.pointer (some ⟨qc,0,none⟩)]).setCell ⟨b,13,none⟩ (.slice (some ⟨bn,0,none⟩) (x.cells.length+1) kn)).cell? ⟨qc,j,none⟩=(#[iv 0,iv 0,iv 0,iv 0,iv 0,iv 0,iv 0,.slice none 0 0]:Array Value)[j]?:=fun j=>by
  have hl:qc<W1.heap.size:=obj_lt ob;rw[World.cell?_of_block (a:=⟨qc,j,none⟩) (o2.block qc hl (fun u=>by rcases u with u | u <;> omega)),cell_of_row W1 qc j _ _ (0,0) ob]
 have cn:∀j,((W1.setCells bn (x.cells.length*2) [iv x.cells.length,.pointer (some ⟨qc,0,none⟩)]).setCell ⟨b,13,none⟩ (.slice (some ⟨bn,0,none⟩) (x.cells.length+1) kn)).cell? ⟨bn,j,none⟩=(W1.setCells bn (x.cells.length*2) [iv x.cells.length,.pointer (some ⟨qc,0,none⟩)]).cell? ⟨bn,j,none⟩:=fun j=>cell_other _ (.inl (fun u=>nnb u.symm))
 have ex:∀m,m<2→∃u,W1.cell? ⟨bn,x.cells.length*2+m,none⟩=some u:=fun m hm=>(g.sb.lo.2.2.2 _ (by omega)).1
 refine h.pushn r0 hzn e qc hq ⟨cq 0,cq 1,cq 2,cq 3,cq 4,cq 5,cq 6⟩ (cq 7) ⟨by have:=obj_lt ob;have:=o2.size;omega,fun j=>?_⟩ o2 (World.cell?_setCell_same _ _ _ ((World.cell?_of_block (a:=⟨b,13,none⟩) fb).trans g.sb.n13)) (fun j hj=>(cell_other _ (.inr (fun u=>hj u.symm))).trans (World.cell?_of_block (a:=⟨b,j,none⟩) fb)) ?_ ?_ (fun j hj=>(cn j).trans (set_out bn _ _ _ W1 (.inl hj))) ((nf1_block g.sb.nb fb o1.size).set _ _) ⟨by have:=o2.size;have:=g.sb.lo.2.2.1;omega,fun j hj=>?_⟩
 ·have hl:qc<W1.heap.size:=obj_lt ob;rw[World.frozen?_of_block (a:=⟨qc,j,none⟩) (o2.block qc hl (fun u=>by rcases u with u | u <;> omega))];simp [World.frozen?,ob]
 ·rw[cn];have:=set_in bn [iv x.cells.length,.pointer (some ⟨qc,0,none⟩)] (x.cells.length*2) 0 W1 ex (by simp);rw[Nat.add_zero] at this;exact this
 ·rw[cn];exact set_in bn [iv x.cells.length,.pointer (some ⟨qc,0,none⟩)] (x.cells.length*2) 1 W1 ex (by simp)
 ·refine⟨?_,?_⟩
  ·rw[cn];by_cases u:j<x.cells.length*2∨x.cells.length*2+2≤j
   ·rw[set_out bn _ _ _ W1 u];exact(g.sb.lo.2.2.2 j hj).1
   ·have:=set_in bn [iv x.cells.length,.pointer (some ⟨qc,0,none⟩)] (x.cells.length*2) (j-x.cells.length*2) W1 ex (by simp;omega);rw[show x.cells.length*2+(j-x.cells.length*2)=j by omega] at this;rw[this];exact⟨_,List.getElem?_eq_getElem (by simp;omega)⟩
  ·rw[World.frozen?_setCell];exact(frozen_put bn _ _ W1 j).trans (g.sb.lo.2.2.2 j hj).2
def PlaceX(x:Hp)(t:Nat)(x1:Hp):Prop:=(t<x.cells.length∧x1=x)∨(t=x.cells.length∧x1={ x with cells:=x.cells++[Cl0] })
structure PlaceR[Inhabited ProtD](B:Nat)(w':World)(b:Nat)(x:Hp)(ar:Option Addr)(kr:Nat)(v4 v8:Value)(br bn:Nat)(pb:Nat→Nat)(kn hd:Nat)(F:List Int)(vk:Value)(K:List Nat)(t:Nat):Prop where
 ft:t=fstFree x
 at_:∃x1 cB' cO' pa' pk' vf' F' role',PlaceX x t x1∧GapL x F F'∧SAt B w' b x1 ar kr v4 v8 br cB' cO' bn pb pa' pk' kn hd vf' F' vk K role'
theorem fst_some{C:Nat}{x:Hp}{F:List Int}{K:List Nat}(h:SInv C x F K){F':List Int}(g:GapL x F F'){j:Nat}(t:GapT x F' (some j)):j=fstFree x:=by
 obtain⟨f1,f2,f3⟩:=fstFree_is x;have l:=gap_least h g t;rcases Nat.lt_or_ge (fstFree x) x.cells.length with q | q
 ·have h1:=l _ q (f3 q);rcases Nat.lt_or_ge j (fstFree x) with u | u
  ·exact absurd t.2.1 (f2 j u)
  ·omega
 ·have:=t.1;exact absurd t.2.1 (f2 j (by omega))
theorem fst_none{C:Nat}{x:Hp}{F:List Int}{K:List Nat}(h:SInv C x F K){F':List Int}(g:GapL x F F')(t:GapT x F' none):x.cells.length=fstFree x∧∀i,i<x.cells.length→(x.c i).st≠0:=by
 obtain⟨f1,f2,f3⟩:=fstFree_is x
 have no:∀i,i<x.cells.length→(x.c i).st≠0:=fun i hi h0=>by
  have:=g.2.2.2 i hi h0 (h.al i hi h0);have e:F'=[]:=t;rw[e] at this;cases this
 refine⟨?_,no⟩;rcases Nat.lt_or_ge (fstFree x) x.cells.length with q | q
 ·exact absurd (f3 q) (no _ q)
 ·omega
structure NewN[Inhabited ProtD](B:Nat)(b:Nat)(x:Hp)(ar:Option Addr)(kr:Nat)(v4 v8:Value)(br bn:Nat)(pb:Nat→Nat)(kn hd:Nat)(vf:Value)(F:List Int)(vk:Value)(K:List Nat)(a w5:World):Prop where
 c13:w5.cell? ⟨b,13,none⟩=some (.slice (some ⟨bn,0,none⟩) x.cells.length kn)
 f13:w5.frozen? ⟨b,13,none⟩=false
 so:∃cB' cO' pa' pk' role',SAt B (w5.setCell ⟨b,13,none⟩ (.slice (some ⟨bn,0,none⟩) (x.cells.length+1) kn)) b { x with cells:=x.cells++[Cl0] } ar kr v4 v8 br cB' cO' bn pb pa' pk' kn hd vf F vk K role'
 ex:Ext a w5
theorem place_run[Inhabited ProtD]{B:Nat}{w:World}{b:Nat}{x:Hp}{ar:Option Addr}{kr:Nat}{v4 v8:Value}{br bn:Nat}{cB cO:Nat→Nat}{pb:Nat→Nat}{pa:Nat→Option Addr}{pk:Nat→Nat}{kn hd:Nat}{vf:Value}{F:List Int}{vk:Value}{K:List Nat}{role:Nat→Nat}(h:SAt B w b x ar kr v4 v8 br cB cO bn pb pa pk kn hd vf F vk K role)(r0:0<x.regs.length)(hzn:(default:ProtD).z bn=none)(hkn:x.cells.length+1≤kn)(a:World)(ha:a.heap.size≤B)(hx:Ext a w)(W1:World)(e:Ext w W1)(qc ad:Nat)(hq:w.heap.size≤qc)(ob:W1.heap[qc]?=some zcO)(on:W1.heap[ad]?=some (nodeO x.cells.length qc))(ty:TypeId):
  ∃v' w5,(Builtin.append_ #[117,117] ty #[.slice (some ⟨bn,0,none⟩) x.cells.length kn,.slice (some ⟨ad,0,none⟩) 1 1]).run Tryz.prog W1=.ok v' w5∧v'=.slice (some ⟨bn,0,none⟩) (x.cells.length+1) kn∧NewN B b x ar kr v4 v8 br bn pb kn hd vf F vk K a w5:=by
 have g:=h.ext e;have nnb:bn≠b:=fun u=>by have h1:=h.sp.n;have h2:=h.sp.b;rw[u] at h1;omega
 have o1:Only (fun q=>q=bn) W1 (W1.setCells bn (x.cells.length*2) [iv x.cells.length,.pointer (some ⟨qc,0,none⟩)]):=put_only (S:=fun q=>q=bn) rfl (Only.refl _ W1);have fb:=o1.block b g.sb.nb.1 (fun u=>nnb u.symm);exact⟨_,_,appN_run W1 ty bn x.cells.length kn qc ad 1 g.sb.lo.2.2 hkn (cell_of_row W1 ad 0 _ _ (0,0) on) (cell_of_row W1 ad 1 _ _ (0,0) on),rfl,(World.cell?_of_block (a:=⟨b,13,none⟩) fb).trans g.sb.n13,(World.frozen?_of_block (a:=⟨b,13,none⟩) fb).trans (g.sb.nb.2 13),⟨_,_,_,_,_,h.newn r0 hzn hkn W1 e qc hq ob⟩,o1.ext (hx.trans e) (fun q hq u=>by have:=h.sb.lo.2.1;omega)⟩
theorem alloc2_a(w:World)(o1 o2:Obj):((w.alloc o1).alloc o2).drew.heap[w.heap.size]?=some o1:=(((Ext.refl (w.alloc o1)).alloc o2).drew.block w.heap.size (by simp)).trans (heap_alloc_new w o1)
theorem alloc2_b(w:World)(o1 o2:Obj):((w.alloc o1).alloc o2).drew.heap[w.heap.size+1]?=some o2:=by
 have:=heap_alloc_new (w.alloc o1) o2;rw[show(w.alloc o1).heap.size=w.heap.size+1 by simp] at this;exact this
theorem step_appEx{ops:Array Oper}{o:Oper}{a:Act}{K:Act→World→Prop}{Q:Exit→Act→World→Prop}{E:Prop}(W1:World)(hgd:o.guard=none)(s y:Operand)(t tn:TypeId)
  (ho:o.op=.call { callee:=.builtin .append,args:=#[s,y],argTypes:=#[t,tn] }) (v1 v2 u:Value) (P:World→Prop) (hs:a.eval s=v1) (hy:a.eval y=v2) (hr:∀ty,∃v' w',(Builtin.append_ #[t,tn] ty #[v1,v2]).run Tryz.prog W1=.ok v' w'∧v'=u∧P w') (hK:∀w',P w'→K (a.put o.dst u) w') :
  if Region.wanted o (yielded ops a.tmps)=true then Oper.wp Tryz.prog o a W1 K Q else E:=by
 obtain⟨v',w',h1,h2,h3⟩:=hr o.type;have hw:Region.wanted o (yielded ops a.tmps)=true:=by simp [Region.wanted,hgd]
 rw[if_pos hw];unfold Oper.wp execOp;simp only [ho,resolve,invoke,builtin,Sem.run_bind,Sem.run_pure,Result.andThen_ok,List.map_toArray,List.map_cons,List.map_nil,hs,hy,h1];rw[h2];exact hK w' h3
theorem place_any[Inhabited ProtD]{C:Nat}{B:Nat}{w:World}{b:Nat}{x:Hp}{ar:Option Addr}{kr:Nat}{v4 v8:Value}{br bn:Nat}{cB cO:Nat→Nat}{pb:Nat→Nat}{pa:Nat→Option Addr}{pk:Nat→Nat}{kn hd:Nat}{vf:Value}{F:List Int}{vk:Value}{K:List Nat}{role:Nat→Nat}(h:SAt B w b x ar kr v4 v8 br cB cO bn pb pa pk kn hd vf F vk K role)(i:SInv C x F K)(hC:C≤1000000000)(r0:0<x.regs.length)(n8:x.cells.length≤8000)(hzn:(default:ProtD).z bn=none)(hkn:(∀i,i<x.cells.length→(x.c i).st≠0)→x.cells.length+1≤kn)(a:World)(ha:a.heap.size≤B)(hx:Ext a w):
  Calls Tryz.prog 317 #[.pointer (some ⟨b,0,none⟩)] w fun e w'=>∃t:Nat,e=.returned (ndp bn t)∧Hid (PlaceR B w' b x ar kr v4 v8 br bn pb kn hd F vk K t)∧Ext a w':=by
 have GP:=hide (gap_any h i.ho (by have:=i.le;omega) i.nn);have H:=hide h;have I:=hide i;have lo:=h.sb.lo.1;have hbw:b<w.heap.size:=h.sb.nb.1;have HKN:=hide hkn;clear h i hkn;go_enter Tryz.func317,Tryz.ntmps317;go_wp2_with fail;refine(unhide GP).mono ?_;rintro e w1 ⟨t,vf',F',rfl,lq,gl⟩;have q1:=(unhide lq).2;have NF:Nf1 b w1:=⟨Nat.lt_of_lt_of_le (unhide H).sb.nb.1 q1.size,fun j=>(q1.hfr j).trans ((unhide H).sb.nb.2 j)⟩;obtain⟨role1,h1⟩:=(unhide H).freed (unhide lq).1 q1 NF;have H1:=hide h1;have X1:=hide (q1.ext hx (show a.heap.size≤b by omega) (fun k hk=>by have:=((unhide H).sb.fr.own.lt k hk).1;omega));have GL:=hide (unhide gl);have c13:=h1.sb.n13;have f13:=h1.sb.nb.2 13;have hb1:b<w1.heap.size:=cell_lt c13;clear h1 q1 lq NF gl GP;rcases t with _ | j
 ·rw[show gapV none bn=.pointer none from rfl];obtain⟨FT,NO⟩:=fst_none (unhide I) (unhide GL).1 (unhide GL).2;have HFT:=hide FT;have hk:=unhide HKN NO;clear FT NO;have hsB:a.heap.size≤w1.heap.size:=(unhide X1).size;have PR:=hide (fun(W1:World) (e:Ext w1 W1) (ob:W1.heap[w1.heap.size]?=some zcO) (on:W1.heap[w1.heap.size+1]?=some (nodeO x.cells.length w1.heap.size))=>place_run (unhide H1) r0 hzn hk a ha (unhide X1) W1 e w1.heap.size (w1.heap.size+1) (Nat.le_refl _) ob on);have lb:a.heap.size≤b:=by omega
  have wn:wrap64 ((x.cells.length:Int)+1-1)=(x.cells.length:Int):=by rw[show(x.cells.length:Int)+1-1=(x.cells.length:Int) by omega];exact wrap_fit _ (by omega) (by omega)
  have WN:=hide wn;clear wn;go_wp2_with fail;go_cut [] (fun wx=>Hid (∃cB' cO' pa' pk' role',SAt B wx b { x with cells:=x.cells++[Cl0] } ar kr v4 v8 br cB' cO' bn pb pa' pk' kn hd vf' F' vk K role')∧Hid (Ext a wx))
  case first=>
   go_region_law (refine step_appEx _ rfl _ _ 117 117 rfl (.slice (some ⟨bn,0,none⟩) x.cells.length kn) (.slice (some ⟨w1.heap.size+1,0,none⟩) 1 1) (.slice (some ⟨bn,0,none⟩) (x.cells.length+1) kn) _ (by first | rfl | simp [Act.eval,Act.put]) (by first | rfl | simp [Act.eval,Act.put];rfl) (unhide PR _ (by first | exact((Ext.refl w1).alloc _).alloc _ | exact(((Ext.refl w1).alloc _).alloc _).drew | exact(((Ext.refl w1).drew).alloc _).alloc _) (by first | exact alloc2_a w1 _ _ | exact alloc2_a w1.drew _ _) (by first | exact alloc2_b w1 _ _ | exact alloc2_b w1.drew _ _)) ?_;intro w5 hap;have c13':=hap.c13;have f13':=hap.f13;have hb5:b<w5.heap.size:=cell_lt c13';have HP:=hide hap;clear hap)
   all_goals
    go_wp2_with fail;go_meet
    first | exact⟨(unhide HP).so,(unhide HP).ex.setCell (p:=⟨b,13,none⟩) lb _⟩ | exact⟨let ⟨c1,c2,c3,c4,c5,hh⟩:=(unhide HP).so;⟨c1,c2,c3,c4,c5,hh.ext (Ext.refl _).drew⟩,((unhide HP).ex.setCell (p:=⟨b,13,none⟩) lb _).drew⟩
  case rest=>
   obtain⟨w6,hw6⟩:∃W,W=wc:=⟨_,rfl⟩;subst hw6;obtain⟨h6,x6⟩:=hcut;obtain⟨cB6,cO6,pa6,pk6,role6,g6⟩:=unhide h6;have G6:=hide g6;have X6:=hide (unhide x6);have c136:w6.cell? ⟨b,13,none⟩=some (.slice (some ⟨bn,0,none⟩) (x.cells.length+1) kn):=by have:=g6.sb.n13;simpa using this
   have hb6:b<w6.heap.size:=cell_lt c136;have j0:(0:Int)≤(x.cells.length:Int):=by omega
   have j1:(x.cells.length:Int)<(x.cells.length:Int)+1:=by omega
   clear h6 x6 g6 c13 f13 hb1;go_wp2_with fail;go_quiet (fail);go_wp2_with fail;go_ret;refine⟨x.cells.length,?_,⟨unhide HFT,_,_,_,_,_,_,_,_,.inr ⟨rfl,rfl⟩,(unhide GL).1,(unhide G6).ext ((Ext.refl _).drewN _)⟩,(unhide X6).trans ((Ext.refl _).drewN _)⟩
   first | rfl | simp
 ·rw[show gapV (some j) bn=ndp bn j from rfl];have HFT:=hide (fst_some (unhide I) (unhide GL).1 (unhide GL).2);have tj:=(unhide GL).2.1;go_wp2_with fail;go_ret;exact⟨j,rfl,⟨unhide HFT,x,_,_,_,_,_,_,_,.inl ⟨tj,rfl⟩,(unhide GL).1,unhide H1⟩,unhide X1⟩
theorem PlaceX.len{x x1:Hp}{t:Nat}(h:PlaceX x t x1):t<x1.cells.length∧x1.regs=x.regs∧x1.gray=x.gray∧x1.room=x.room∧x1.phase=x.phase∧x1.hand=x.hand:=by
 rcases h with⟨h1,rfl⟩ | ⟨h1,rfl⟩
 ·exact⟨h1,rfl,rfl,rfl,rfl,rfl⟩
 ·exact⟨by simp;omega,rfl,rfl,rfl,rfl,rfl⟩
theorem PlaceX.set{x x1:Hp}{t:Nat}(h:PlaceX x t x1)(c:Cl):x1.cells.set t c=newCs x t c:=by
 unfold newCs;rcases h with⟨h1,rfl⟩ | ⟨h1,rfl⟩
 ·rw[if_pos h1]
 ·rw[if_neg (by omega),h1];simp
theorem SInv.made{C:Nat}{x z:Hp}{F F':List Int}{K:List Nat}(h:SInv C x F K)(g:GapL x F F')(c:Cl)(hc:c.st=1)(hz:z.cells=newCs x (fstFree x) c)(hp:z.phase=x.phase)(hh:z.hand=x.hand)(hr:0≤x.hand∧x.hand≤x.cells.length):SInv (C+1) z F' K:=by
 obtain⟨f1,f2,f3⟩:=fstFree_is x;have zc:=newCs_c x z (fstFree x) c f1 hz;have zl:z.cells.length=if fstFree x<x.cells.length then x.cells.length else x.cells.length+1:=by rw[hz,newCs_len]
 have lt:∀q,q<z.cells.length→q≠fstFree x→q<x.cells.length:=fun q hq hne=>by rw[zl] at hq;split at hq <;> omega
 have fr:∀q,q<z.cells.length→(z.c q).st=0→q<x.cells.length∧(x.c q).st=0∧fstFree x<q:=fun q hq h0=>by
  rw[zc q] at h0
  split at h0
  ·rw[hc] at h0;omega
  ·rename_i hne;have hq2:=lt q hq hne;refine⟨hq2,h0,?_⟩;rcases Nat.lt_or_ge q (fstFree x) with u | u
   ·exact absurd h0 (f2 q u)
   ·omega
 have us:∀q,q≠fstFree x→z.c q=x.c q:=fun q hq=>by rw[zc q,if_neg hq]
 have kx:∀q,(x.c q).st=1→q<x.cells.length→q≠fstFree x:=fun q h1 hq e=>by
  have:=f3 (by omega);rw[←e,h1] at this;omega
 refine⟨g.1,fun i hi h0=>?_,fun v hv=>h.nn v (g.2.2.1 v hv),?_,fun h3=>?_,fun h4=>?_,fun a b=>h.k0 (by rw[←hp];exact a) (by rw[←hp];exact b)⟩
 ·obtain⟨h1,h2,_⟩:=fr i hi h0;exact g.2.2.2 i h1 h2 (h.al i h1 h2)
 ·have l1:=h.le;have l2:=g.2.1;have zle:z.cells.length≤x.cells.length+1:=by rw[zl];split <;> omega
  have l3:remU z≤remU x+1:=by
   unfold remU;rw[hp,hh]
   repeat' split
   all_goals omega
  omega
 ·have k:=h.k3 (by rw[←hp];exact h3);rw[hh];refine⟨k.1,fun i hi=>⟨(k.2.1 i hi).1,?_⟩,fun i hi h1 hn j hj h0=>?_⟩
  ·have h2:=k.2.1 i hi;rw[us i (kx i h2.2 (by omega))];exact h2.2
  ·obtain⟨j1,j2,j3⟩:=fr j hj h0;by_cases e:i=fstFree x
   ·omega
   ·rw[us i e] at h1;exact k.2.2 i hi h1 hn j j1 j2
 ·have k:=h.k4 (by rw[←hp];exact h4);have ge:x.cells.length≤z.cells.length:=by rw[zl];split <;> omega
  refine⟨k.1,fun i hi=>⟨by have:=(k.2.1 i hi).1;omega,?_⟩,fun i hi h1 hn j hj h0=>?_⟩
  ·have h2:=k.2.1 i hi;rw[us i (kx i h2.2 h2.1)];exact h2.2
  ·obtain⟨j1,j2,j3⟩:=fr j hj h0;by_cases e:i=fstFree x
   ·omega
   ·rw[us i e] at h1;exact k.2.2 i (lt i hi e) h1 hn j j1 j2
theorem SAt.newcell[Inhabited ProtD]{B:Nat}{w W:World}{b:Nat}{x:Hp}{ar:Option Addr}{kr:Nat}{v4 v8:Value}{br bn:Nat}{cB cO:Nat→Nat}{pb:Nat→Nat}{pa:Nat→Option Addr}{pk:Nat→Nat}{kn hd:Nat}{vf:Value}{F:List Int}{vk:Value}{K:List Nat}{role:Nat→Nat}(h:SAt B w b x ar kr v4 v8 br cB cO bn pb pa pk kn hd vf F vk K role)(r0:0<x.regs.length)(t:Nat)(ht:t<x.cells.length)(c':Cl)(m:Nat)(hm:c'.prs=List.replicate m Pr0)(e:Ext w W)(qb:Nat)(hq:w.heap.size≤qb)(nf:Nfp qb m W)(hz:∀k,k<m→PrAt W qb (k*6) Pr0):
  ∃pb' pa' pk' role',SAt B (cellW W (cB t) (cO t) c' (.slice (some ⟨qb,0,none⟩) m m)) b { x with cells:=x.cells.set t c' } ar kr v4 v8 br cB cO bn pb' pa' pk' kn hd vf F vk K role':=by
 have g:=h.ext e;have nc:=(g.rw.nc t ht).1;have ml:c'.prs.length=m:=by rw[hm];simp
 have cq:cB t≠qb:=fun u=>by have:=(h.rw.nc t ht).1.1;omega
 have hB:B≤qb:=Nat.le_trans h.sb.lo.1 (by have:=h.sb.nb.1;omega);have o7:Only (fun q=>q=cB t∨(q=pb t∧0<pk t)) w (W.setCell ⟨cB t,cO t+7,none⟩ (.slice (some ⟨qb,0,none⟩) m m)):=Only.setCell (Only.of_ext e) (p:=⟨cB t,cO t+7,none⟩) (.inl rfl) _;have c7:(W.setCell ⟨cB t,cO t+7,none⟩ (.slice (some ⟨qb,0,none⟩) m m)).cell? ⟨cB t,cO t+7,none⟩=some (.slice (some ⟨qb,0,none⟩) m m):=World.cell?_setCell_same _ _ _ (g.rw.p7 t ht)
 have g1:=h.rowTo t ht r0 c'.prs qb (some ⟨qb,0,none⟩) m (by omega) o7 (nc.set _ _) (.inr hq) (fun _=>⟨rfl,nf.set _ _⟩) hB (by rw[ml];exact c7) (fun j hj=>(cell_other _ (.inr (fun u=>hj u.symm))).trans ((bcell e).1 (cB t) j (h.rw.nc t ht).1.1)) (fun k hk=>by
  have hk2:k<m:=by omega
  have:c'.prs[k]=Pr0:=by simp [hm]
  rw[this];exact(hz k hk2).of fun j _=>cell_other _ (.inl cq))
 obtain⟨k1,k2⟩:=cellW_same W (cB t) (cO t) c' (x.c t) (.slice (some ⟨qb,0,none⟩) m m) _ (g.rw.s t ht) (g.rw.p7 t ht);have ot:=cellW_other W (cB t) (cO t) c' (.slice (some ⟨qb,0,none⟩) m m);have oc:=cellW_only W (cB t) (cO t) c' (.slice (some ⟨qb,0,none⟩) m m)
 have o2:Only (fun q=>q=cB t) (W.setCell ⟨cB t,cO t+7,none⟩ (.slice (some ⟨qb,0,none⟩) m m)) (cellW W (cB t) (cO t) c' (.slice (some ⟨qb,0,none⟩) m m)):=⟨oc.os,oc.tape,oc.output,by have:=oc.size;simpa [World.setCell] using this,fun q hq hne=>by
  rw[Below.heap_setCell _ _ _ _ hne];exact oc.block q (by simpa [World.setCell] using hq) hne⟩
 have hc:=Hp.c_set x t { x.c t with prs:=c'.prs } ht
 have g2:=g1.setc (i:=t) (c':=c') (by simpa using ht) (by rw[hc t,if_pos rfl]) o2 k1 (fun k hk=>by
  by_cases u:k=cO t+7
  ·rw[u,k2,c7]
  ·rw[ot k (by omega),cell_other _ (.inr (fun z=>u z.symm))]) (cellW_nf nc _ _ _)
 have ee:({ ({ x with cells:=x.cells.set t { x.c t with prs:=c'.prs } }:Hp) with cells:=(x.cells.set t { x.c t with prs:=c'.prs }).set t c' }:Hp)={ x with cells:=x.cells.set t c' }:=by simp
 have g3:=g2;rw[ee] at g3;exact⟨_,_,_,_,g3⟩
theorem way_3[Inhabited ProtD]{C B:Nat}{w:World}{b bd:Nat}{x:Hp}{a p c:Nat}{n:Int}{rv:Value}(h:SOq C B w b x)(s:Snd x)(hd:(default:ProtD).z bd=some (deedO b 3 a p c n rv))(ha:a<16)(v:World)(hv:v.heap.size≤B)(hx:Ext v w):
  Calls Tryz.prog 294 #[.pointer (some ⟨bd,0,none⟩)] w fun e w'=>WayPost C B b x a p c n 3 v e w':=by
 have D:=hide (Deed.of (h.obj hd));obtain⟨br,kr,hr⟩:=h.regs s;have R:=hide hr;obtain⟨d0,d1,d2,d3,d4,d5,d6⟩:=unhide D;obtain⟨r0,r1,r2⟩:=hr.r a ha;have f:=hr.f;have hb1:br<w.heap.size:=cell_lt r0;have hbB:=hr.lo.1;have hdw:bd<w.heap.size:=cell_lt d0;have QA:=hide (fun(W:World) (xW:Ext w W)=>dA_any ((unhide R).ext xW) ((unhide D).ext xW) ha);have FN:=hide (show ∀W,Ext w W→SOq (C+64000) B (wordO W br (a*3) Wd0) b (regTo x a Wd0)∧Ext v (wordO W br (a*3) Wd0) from fun W xW=>⟨(hr.set W a Wd0 xW ha).wide (by omega),(wordO_only W br (a*3) Wd0).ext (hx.trans xW) (fun q hq e=>by omega)⟩);unfold wordO Wd0 at FN;clear h s hd hr;go_enter Tryz.func294,Tryz.ntmps294;go_wp2_with fail;refine(unhide QA _ (Ext.refl w)).mono ?_;rintro e w5 ⟨rfl,x5⟩;have xw5:=x5;have k0:=xw5.keep r0;have k1:=xw5.keep r1;have k2:=xw5.keep r2;have kf:=fun m=>((bcell xw5).2 br m hb1).trans (f m)
 have kd0:=xw5.keep d0;have kd5:=xw5.keep d5;have hb5:br<w5.heap.size:=cell_lt k0;have hd5:bd<w5.heap.size:=cell_lt kd0;have F5:=hide (unhide FN w5 xw5);go_wp2_with fail;go_ret2;exact⟨_,0,0,rfl,⟨rfl,rfl,rfl⟩,(unhide F5).1,(unhide F5).2⟩
theorem filt_cut(p:Nat→Bool)(h:Nat):∀d,(List.range (h+d)).filter (fun i=>p i && decide ((i:Int)<(h:Int)))=(List.range h).filter p
 | 0=>by
  refine List.filter_congr fun i hi=>?_
  have:=List.mem_range.1 hi;have e:decide ((i:Int)<(h:Int))=true:=by simp;omega
  rw[e,Bool.and_true]
 | d+1=>by
  rw[←Nat.add_assoc,List.range_succ,List.filter_append,filt_cut p h d,List.filter_cons_of_neg (by simp;intro _;omega),List.filter_nil,List.append_nil]
theorem frees_len(x:Hp)(k:Nat):(frees x k).length≤k:=valsTo_len _ _ _
theorem SOwn.soq[Inhabited ProtD](hz:∀q,(default:ProtD).z q=none){B:Nat}{w:World}{b:Nat}{x:Hp}(h:SOwn B w b x)(s:Snd x):SOq 24000 B w b x:=by
 obtain⟨ar,kr,a4,n4,k4,a8,m8,k8,br,cB,cO,bn,pb,pa,pk,kn,hd,vf,F,vk,role,hst,ho,pm,hk⟩:=h;have hh:=s.r1.hand;have n8:=s.ok.n8;have cc:=s.r1.cells;refine⟨ar,kr,a4,n4,k4,a8,m8,k8,br,cB,cO,bn,pb,pa,pk,kn,hd,vf,F,vk,_,role,hst,⟨ho,fun i hi h0=>?_,fun v hv=>?_,?_,fun h3=>?_,fun h4=>?_,fun h3 h4=>?_⟩,by omega,hz bn⟩
 ·exact pm.mem_iff.2 ((frees_mem x _ _).2 ⟨i,hi,h0,rfl⟩)
 ·obtain⟨i,_,_,e⟩:=(frees_mem x _ _).1 (pm.mem_iff.1 hv);omega
 ·have l1:=pm.length_eq;have l2:=frees_len x x.cells.length
  have l3:remU x≤16000:=by
   unfold remU
   split
   ·omega
   split
   ·omega
   split
   ·omega
   split
   ·omega
   ·omega
  omega
 ·have e:x.cells.length=x.hand.toNat+(x.cells.length-x.hand.toNat):=by omega
  have e2:keptTo x x.cells.length=(List.range x.cells.length).filter (fun i=>((x.c i).st == 1) && decide ((i:Int)<(x.hand.toNat:Int))):=by
   unfold keptTo;refine List.filter_congr fun i _=>?_
   have:sweptB x i=decide ((i:Int)<(x.hand.toNat:Int)):=by
    unfold sweptB;rw[h3,show((x.hand.toNat:Nat):Int)=x.hand by omega];simp
   rw[this]
  rw[e2,e,filt_cut (fun i=>(x.c i).st == 1) x.hand.toNat _];refine⟨List.pairwise_lt_range.filter _,fun i hi=>?_,fun i hi h1 hn=>?_⟩
  ·obtain⟨a,b⟩:=List.mem_filter.1 hi;exact⟨List.mem_range.1 a,by simpa using b⟩
  ·exact absurd (List.mem_filter.2 ⟨List.mem_range.2 hi,by simpa using h1⟩) hn
 ·have e2:keptTo x x.cells.length=(List.range x.cells.length).filter (fun i=>(x.c i).st == 1):=by
   unfold keptTo;refine List.filter_congr fun i _=>?_
   have:sweptB x i=true:=by unfold sweptB;simp [h4]
   rw[this,Bool.and_true]
  rw[e2];refine⟨List.pairwise_lt_range.filter _,fun i hi=>?_,fun i hi h1 hn=>?_⟩
  ·obtain⟨a,b⟩:=List.mem_filter.1 hi;exact⟨List.mem_range.1 a,by simpa using b⟩
  ·exact absurd (List.mem_filter.2 ⟨List.mem_range.2 hi,by simpa using h1⟩) hn
 ·unfold keptTo;refine List.filter_eq_nil_iff.2 fun i _=>?_
  have:sweptB x i=false:=by unfold sweptB;simp [h3,h4]
  simp [this]
end Go.Proofs.YtddkhnclmeikfaaGreat
