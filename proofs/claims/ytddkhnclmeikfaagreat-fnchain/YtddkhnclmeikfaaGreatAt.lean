import Derived.Test.YtddkhnclmeikfaaGreatVh
import Derived.Test.YtddkhnclmeikfaaGreatRc1
import Derived.Test.YtddkhnclmeikfaaGreatSp1
set_option maxRecDepth 100000
set_option maxHeartbeats 1000000
namespace Go.Proofs.YtddkhnclmeikfaaGreat
open Go.RowKit
attribute [local go_sem ↓] Go.wp_at_zero Go.wp_at_succ
theorem SAt.move[Inhabited ProtD]{B:Nat}{w w':World}{b:Nat}{x:Hp}{ar:Option Addr}{kr:Nat}{v4 v8:Value}{br bn:Nat}{cB cO:Nat→Nat}{pb:Nat→Nat}{pa:Nat→Option Addr}{pk:Nat→Nat}{kn hd:Nat}{vf:Value}{F:List Int}{vk:Value}{K:List Nat}{role:Nat→Nat}(h:SAt B w b x ar kr v4 v8 br cB cO bn pb pa pk kn hd vf F vk K role)(t f:Nat)(htf:t≠f)(ht:t<x.cells.length)(hf:f<x.cells.length)(o:Only (fun q=>∃j,j<x.cells.length∧q=cB j) w w')(nf:∀j,j<x.cells.length→Nf1 (cB j) w')(hs:S7 w' (cB t) (cO t) (x.c f))(h7:w'.cell? ⟨cB t,cO t+7,none⟩=some (.slice (pa f) (x.c f).prs.length (pk f)))(gs:S7 w' (cB f) (cO f) (mvC t))(g7:w'.cell? ⟨cB f,cO f+7,none⟩=some (.slice none 0 0))
  (ho:∀q,q<x.cells.length→q≠t→q≠f→∀k,k<8→w'.cell? ⟨cB q,cO q+k,none⟩=w.cell? ⟨cB q,cO q+k,none⟩) :
  ∃pb' pa' pk' role',SAt B w' b { x with cells:=(x.cells.set t (x.c f)).set f (mvC t) } ar kr v4 v8 br cB cO bn pb' pa' pk' kn hd vf F vk K role':=by
 have hc:∀q,({ x with cells:=(x.cells.set t (x.c f)).set f (mvC t) }:Hp).c q=if q=f then mvC t else if q=t then x.c f else x.c q:=fun q=>by
  have h1:=Hp.c_set { x with cells:=x.cells.set t (x.c f) } f (mvC t) (by simpa using hf) q;have h2:=Hp.c_set x t (x.c f) ht q;have e:({ x with cells:=(x.cells.set t (x.c f)).set f (mvC t) }:Hp)={ ({ x with cells:=x.cells.set t (x.c f) }:Hp) with cells:=({ x with cells:=x.cells.set t (x.c f) }:Hp).cells.set f (mvC t) }:=rfl;rw[e,h1];by_cases e1:q=f
  ·rw[if_pos e1,if_pos e1]
  ·rw[if_neg e1,if_neg e1];exact h2
 refine⟨_,_,_,_,h.turned ((x.cells.set t (x.c f)).set f (mvC t)) (by simp) (fun q=>if q=t then f else q) (fun q=>if q=f then none else if q=t then pa f else pa q) (fun q=>if q=f then 0 else if q=t then pk f else pk q) (fun d=>if 0<pk f∧d=pb f then 6+t else role d) o nf (fun q hq=>?_) (fun q hq=>?_) (fun q hq=>?_) (fun q hq hl=>?_) (fun d hb=>?_)⟩
 ·have hq':q<x.cells.length:=by simpa using hq
  rw[hc q];by_cases e1:q=f
  ·rw[if_pos e1];exact Nat.zero_le _
  ·simp only [if_neg e1];by_cases e2:q=t
   ·simp only [if_pos e2];exact h.rw.kp f hf
   ·simp only [if_neg e2];exact h.rw.kp q hq'
 ·rw[hc q];by_cases e1:q=f
  ·subst e1;rw[if_pos rfl];exact gs
  ·rw[if_neg e1];by_cases e2:q=t
   ·subst e2;rw[if_pos rfl];exact hs
   ·rw[if_neg e2];exact(h.rw.s q hq).of fun j hj=>ho q hq e2 e1 j (by omega)
 ·rw[hc q];by_cases e1:q=f
  ·subst e1;simp only [if_true];exact g7
  ·simp only [if_neg e1];by_cases e2:q=t
   ·subst e2;simp only [if_true];exact h7
   ·simp only [if_neg e2];rw[ho q hq e2 e1 7 (by omega)];exact h.rw.p7 q hq
 ·rw[hc q];by_cases e1:q=f
  ·rw[if_pos e1] at hl;omega
  ·rw[if_neg e1] at hl;simp only [if_neg e1];by_cases e2:q=t
   ·rw[if_pos e2] at hl;simp only [if_pos e2];exact⟨⟨hf,trivial⟩,trivial,trivial,by rw[if_pos ⟨hl,trivial⟩,e2]⟩
   ·rw[if_neg e2] at hl;simp only [if_neg e2];refine⟨⟨hq,trivial⟩,trivial,trivial,?_⟩;rw[if_neg (fun e=>?_)]
    ·exact h.sp.p q hq hl
    ·have r1:=h.sp.p q hq hl;have r2:=h.sp.p f hf e.1;rw[e.2] at r1;omega
 ·by_cases e:0<pk f∧d=pb f
  ·have r2:=h.sp.p f hf e.1;rw[←e.2] at r2;omega
  ·rw[if_neg e]
theorem smove_world[Inhabited ProtD]{B:Nat}{w:World}{b:Nat}{x:Hp}{ar:Option Addr}{kr:Nat}{v4 v8:Value}{br bn:Nat}{cB cO:Nat→Nat}{pb:Nat→Nat}{pa:Nat→Option Addr}{pk:Nat→Nat}{kn hd:Nat}{vf:Value}{F:List Int}{vk:Value}{K:List Nat}{role:Nat→Nat}(h:SAt B w b x ar kr v4 v8 br cB cO bn pb pa pk kn hd vf F vk K role)(t f:Nat)(htf:t≠f)(ht:t<x.cells.length)(hf:f<x.cells.length):
  ∃pb' pa' pk' role',SAt B (wipeW (cellW w (cB t) (cO t) (x.c f) (.slice (pa f) (x.c f).prs.length (pk f))) (cB f) (cO f) 2 t) b (mvdH x t f) ar kr v4 v8 br cB cO bn pb' pa' pk' kn hd vf F vk K role':=by
 obtain⟨k1,k2⟩:=cellW_same w (cB t) (cO t) (x.c f) (x.c t) (.slice (pa f) (x.c f).prs.length (pk f)) _ (h.rw.s t ht) (h.rw.p7 t ht);have o1:=cellW_other w (cB t) (cO t) (x.c f) (.slice (pa f) (x.c f).prs.length (pk f));have y1:=cellW_only w (cB t) (cO t) (x.c f) (.slice (pa f) (x.c f).prs.length (pk f));have far1:∀q,q<x.cells.length→q≠t→∀k,k<8→(cellW w (cB t) (cO t) (x.c f) (.slice (pa f) (x.c f).prs.length (pk f))).cell? ⟨cB q,cO q+k,none⟩=w.cell? ⟨cB q,cO q+k,none⟩:=fun q hq e k hk=>h.rw.far8 ht hq e (Nat.le_refl _) y1 o1 k hk
 have s2:S7 (cellW w (cB t) (cO t) (x.c f) (.slice (pa f) (x.c f).prs.length (pk f))) (cB f) (cO f) (x.c f):=(h.rw.s f hf).of fun j hj=>far1 f hf (fun e=>htf e.symm) j (by omega)
 have s7:=(far1 f hf (fun e=>htf e.symm) 7 (by omega)).trans (h.rw.p7 f hf);obtain⟨m1,m2⟩:=wipe_same (cellW w (cB t) (cO t) (x.c f) (.slice (pa f) (x.c f).prs.length (pk f))) (cB f) (cO f) 2 t _ _ s2 s7;have o2:=wipe_other (cellW w (cB t) (cO t) (x.c f) (.slice (pa f) (x.c f).prs.length (pk f))) (cB f) (cO f) 2 t;have y2:=wipe_only (cellW w (cB t) (cO t) (x.c f) (.slice (pa f) (x.c f).prs.length (pk f))) (cB f) (cO f) 2 t;have far2:∀q,q<x.cells.length→q≠f→∀k,k<8→(wipeW (cellW w (cB t) (cO t) (x.c f) (.slice (pa f) (x.c f).prs.length (pk f))) (cB f) (cO f) 2 t).cell? ⟨cB q,cO q+k,none⟩=(cellW w (cB t) (cO t) (x.c f) (.slice (pa f) (x.c f).prs.length (pk f))).cell? ⟨cB q,cO q+k,none⟩:=fun q hq e k hk=>h.rw.far8 hf hq e y1.size y2 o2 k hk
 refine h.move t f htf ht hf ((y1.mono (fun q e=>⟨t,ht,e⟩)).trans (y2.mono (fun q e=>⟨f,hf,e⟩))) (fun q hq=>nf1_cell (nf1_cell (h.rw.nc q hq).1 (cellW_nf (h.rw.nc t ht).1 _ _ _) y1) (wipe_nf (nf1_cell (h.rw.nc f hf).1 (cellW_nf (h.rw.nc t ht).1 _ _ _) y1) _ _ _) y2) ?_ ?_ m1 m2 (fun q hq h1 h2 k hk=>?_)
 ·exact k1.of fun j hj=>far2 t ht htf j (by omega)
 ·rw[far2 t ht htf 7 (by omega)];exact k2
 ·rw[far2 q hq h2 k hk,far1 q hq h1 k hk]
def rgR(x:Hp)(t f j:Nat):Hp:={ x with regs:=(x.regs.take j).map (mvW t f)++x.regs.drop j }
theorem rgR_at(x:Hp)(t f j:Nat)(hj:j<x.regs.length):∃h:j<(rgR x t f j).regs.length,(rgR x t f j).regs[j]=x.regs[j]:=by
 have hl:j<(rgR x t f j).regs.length:=by simp [rgR];omega
 refine⟨hl,?_⟩;simp only [rgR];rw[List.getElem_append_right (by simp;omega)];simp [Nat.min_eq_left (Nat.le_of_lt hj)]
theorem rgR_succ(x:Hp)(t f j:Nat)(hj:j<x.regs.length):({ rgR x t f j with regs:=(rgR x t f j).regs.set j (mvW t f x.regs[j]) }:Hp)=rgR x t f (j+1):=by
 have:(rgR x t f j).regs.set j (mvW t f x.regs[j])=(rgR x t f (j+1)).regs:=by
  simp only [rgR];rw[List.set_append_right _ _ (by simp;omega),List.take_succ_eq_append_getElem hj,List.map_append];simp only [List.length_map,List.length_take,Nat.min_eq_left (Nat.le_of_lt hj),Nat.sub_self];have hd:=List.drop_eq_getElem_cons hj;rw[hd];simp only [List.set_cons_zero,List.map_cons,List.map_nil,List.append_assoc,List.singleton_append]
 rw[this];rfl
theorem rgR_same(x:Hp)(t f j:Nat)(hj:j<x.regs.length)(h:mvW t f x.regs[j]=x.regs[j]):rgR x t f (j+1)=rgR x t f j:=by
 rw[←rgR_succ x t f j hj,h];obtain⟨hl,e⟩:=rgR_at x t f j hj;rw[←e];simp
theorem rgR_zero(x:Hp)(t f:Nat):rgR x t f 0=x:=by simp [rgR]
theorem rgR_all(x:Hp)(t f:Nat):mvdH (rgR x t f x.regs.length) t f=moveH x t f:=by simp [rgR,mvdH,moveH,Hp.c]
def Gave[Inhabited ProtD](B:Nat)(w w':World)(b:Nat)(y:Hp)(ar:Option Addr)(kr:Nat)(v4 v8:Value)(br:Nat)(cB cO:Nat→Nat)(bn:Nat)(pb:Nat→Nat)(kn hd:Nat)(vf:Value)(F:List Int)(vk:Value)(K:List Nat)(i:Nat):Prop:=
 (∃pa' pk' vf' F' role',SAt B w' b y ar kr v4 v8 br cB cO bn pb pa' pk' kn hd vf' F' vk K role'∧Ho F'∧F'.Perm ((i:Int)::F))∧∀q,q<w.heap.size→q≠b→q≠cB i→vf.ownBlock≠some q→w'.heap[q]?=w.heap[q]?
theorem giveBack_any[Inhabited ProtD]{B:Nat}{w:World}{b:Nat}{x:Hp}{ar:Option Addr}{kr:Nat}{v4 v8:Value}{br bn:Nat}{cB cO:Nat→Nat}{pb:Nat→Nat}{pa:Nat→Option Addr}{pk:Nat→Nat}{kn hd:Nat}{vf:Value}{F:List Int}{vk:Value}{K:List Nat}{role:Nat→Nat}(h:SAt B w b x ar kr v4 v8 br cB cO bn pb pa pk kn hd vf F vk K role)(i:Nat)(hi:i<x.cells.length)(ho:Ho F)(hl:F.length≤1000000000)(a:World)(ha:a.heap.size≤B)(hx:Ext a w):
  Calls Tryz.prog 332 #[.pointer (some ⟨b,0,none⟩),ndp bn i] w fun e w'=>e=.returned (.tuple #[])∧Gave B w w' b { x with cells:=x.cells.set i Cl0 } ar kr v4 v8 br cB cO bn pb kn hd vf F vk K i∧Ext a w':=by
 have H:=hide h;obtain⟨m0,m1⟩:=h.sb.nd i hi;obtain⟨e0,e1,e2,e3,e4,e5,e6⟩:=h.rw.s i hi;have e7:=h.rw.p7 i hi;have fc:=(h.rw.nc i hi).1.2;have NBC:=hide (show ¬bn=cB i from fun e=>by have h1:=h.sp.n;have h2:=h.sp.c i hi;rw[e] at h1;omega);have nbc:¬bn=cB i:=unhide NBC;have ncb:¬cB i=bn:=fun e=>unhide NBC e.symm
 have hbc:cB i<w.heap.size:=cell_lt e0;have hbn:bn<w.heap.size:=cell_lt m0;have G2:=hide (h.wiped i hi 0 0);have X2:=hide ((wipe_only w (cB i) (cO i) 0 0).ext hx (fun q hq e=>by have:=(h.rw.nc i hi).2;omega));have HO:=hide (And.intro ho hl);have M0:=hide ((World.cell?_of_block (a:=⟨bn,i*2,none⟩) ((wipe_only w (cB i) (cO i) 0 0).block bn hbn nbc)).trans m0);obtain⟨W2,hW2⟩:∃W,W=wipeW w (cB i) (cO i) 0 0:=⟨_,rfl⟩;rw[←hW2] at G2 X2 M0;have O2:=hide (show Only (fun q=>q=cB i) w W2 by rw[hW2];exact wipe_only w (cB i) (cO i) 0 0);unfold wipeW at hW2;clear h ho hl;go_enter Tryz.func332,Tryz.ntmps332;go_wp2_with fail;rw[←hW2];clear hW2 m0 m1 e0 e1 e2 e3 e4 e5 e6 e7 fc;have k0:=unhide M0;have hB:B≤W2.heap.size:=by have:=(unhide G2).sb.lo.2.1;have:=(unhide G2).sb.lo.2.2.1;omega
 go_region_with (go_at_call 107;refine(put_ls _ B b 14 vf F i ((unhide G2).sb.fr.ext (Ext.refl W2).drew) (by simpa using hB) (unhide HO).1 (unhide HO).2).mono ?_;rintro e w3 ⟨rfl,v3,L3,l3,o3,p3,q3⟩;have Q3:=hide q3;have R3:=hide (And.intro l3 (And.intro o3 p3));clear l3 o3 p3 q3)
 all_goals
  have NF:=hide (show Nf1 b w3 from⟨Nat.lt_of_lt_of_le (unhide G2).sb.nb.1 (by have:=(unhide Q3).size;simpa using this),fun j=>((unhide Q3).hfr j).trans (((unhide G2).sb.nb.ext (Ext.refl W2).drew).2 j)⟩);have G3:=hide (((unhide G2).ext (Ext.refl W2).drew).freed (unhide R3).1 (unhide Q3) (unhide NF))
  have FN:=hide (show Gave B w w3 b { x with cells:=x.cells.set i Cl0 } ar kr v4 v8 br cB cO bn pb kn hd vf F vk K i by
   obtain⟨role',g⟩:=unhide G3;refine⟨⟨_,_,v3,L3,role',g,(unhide R3).2.1,(unhide R3).2.2⟩,fun q hq h1 h2 h3=>?_⟩;have hq2:q<W2.heap.size:=Nat.lt_of_lt_of_le hq (unhide O2).size;exact((unhide Q3).block q (by simpa using hq2) h1 h3).trans ((unhide O2).block q hq h2))
  have XN:=hide ((unhide Q3).ext (unhide X2).drew (by have:=(unhide G2).sb.lo.1;omega) (fun k hk=>by have:=((unhide G2).sb.fr.own.lt k hk).1;omega));go_wp2_with fail
  go_end0
  exact⟨rfl,unhide FN,unhide XN⟩
theorem shut_end[Inhabited ProtD]{B:Nat}{w:World}{b:Nat}{x:Hp}{ar:Option Addr}{kr:Nat}{v4 v8:Value}{br bn:Nat}{cB cO:Nat→Nat}{pb:Nat→Nat}{pa:Nat→Option Addr}{pk:Nat→Nat}{kn hd:Nat}{vf:Value}{F:List Int}{vk:Value}{K:List Nat}{role:Nat→Nat}(h:SAt B w b x ar kr v4 v8 br cB cO bn pb pa pk kn hd vf F vk K role)(hp:x.phase=6)(he:x.hand=0)(hr:0≤x.rounds∧x.rounds≤1000000000)(a:World)(ha:a.heap.size≤B)(hx:Ext a w):
  Calls Tryz.prog 336 #[.agg #[.pointer (some ⟨b,0,none⟩)]] w fun e w'=>e=.returned (nowV (unit6 x).phase b)∧Hid (SAt B w' b (unit6 x) ar kr v4 v8 br cB cO bn pb pa pk kn hd vf F vk K role)∧Ext a w':=by
 have E:=hide (show unit6 x={ toPh x 0 0 with rounds:=if x.rounds<1000000000 then x.rounds+1 else x.rounds } by unfold unit6;rw[if_pos he];rfl);have H:=hide h;have HP:=hide hp;have HR:=hide hr;have c6:=h.sb.bx.2.2.2.2.2.2.1;rw[he] at c6;have hbw:b<w.heap.size:=h.sb.nb.1;have XA2:=hide ((Ext.refl w).alloc (.cells #[.pointer (some ⟨b,0,none⟩)] 238));clear h hp he hr;go_enter Tryz.func336,Tryz.ntmps336;go_wp2_with fail;refine(turn_6 ((unhide H).ext (unhide XA2)) (unhide HP) (unhide HR) a ha (hx.trans (unhide XA2))).mono ?_;rintro e w2 ⟨rfl,h2,x2⟩;go_wp2_with fail;go_ret;exact⟨by rw[unhide E];rfl,by rw[unhide E];exact unhide h2,x2⟩
theorem shut_cell[Inhabited ProtD]{B:Nat}{w:World}{b:Nat}{x:Hp}{ar:Option Addr}{kr:Nat}{v4 v8:Value}{br bn:Nat}{cB cO:Nat→Nat}{pb:Nat→Nat}{pa:Nat→Option Addr}{pk:Nat→Nat}{kn hd:Nat}{vf:Value}{F:List Int}{vk:Value}{K:List Nat}{role:Nat→Nat}(h:SAt B w b x ar kr v4 v8 br cB cO bn pb pa pk kn hd vf F vk K role)(n8:x.cells.length≤8000)(hp:x.phase=6)(i:Nat)(hi:x.hand=(i:Int)+1)(hin:i<x.cells.length)(hk:x.cells.length≤kn)(ho:Ho F)(hl:F.length≤1000000000)(a:World)(ha:a.heap.size≤B)(hx:Ext a w):
  Calls Tryz.prog 336 #[.agg #[.pointer (some ⟨b,0,none⟩)]] w fun e w'=>e=.returned (nowV (unit6 x).phase b)∧Hid (∃pa' pk' vf' F' role',SAt B w' b (unit6 x) ar kr v4 v8 br cB cO bn pb pa' pk' kn hd vf' F' vk K role'∧Ho F'∧(((x.c i).st=2∧F'.Perm ((i:Int)::F))∨((x.c i).st≠2∧F'=F)))∧Ext a w':=by
 have EU:=hide (show unit6 x=dropH (shutH x i) i by unfold unit6;rw[if_neg (by omega),show(x.hand-1).toNat=i by omega]);have EP:=hide (show(unit6 x).phase=6 by rw[unhide EU];unfold dropH;split <;> (unfold shutH;exact hp));have hbw:b<w.heap.size:=h.sb.nb.1;have lo:=h.sb.lo.1;have H:=hide h;have XA:=(Ext.refl w).alloc (.cells #[.pointer (some ⟨b,0,none⟩)] 238);have XA2:=hide XA;have c6:=h.sb.bx.2.2.2.2.2.2.1;rw[hi] at c6;have f6:=h.sb.nb.2 6;have hi0:((i:Int)+1 == 0)=false:=by simp;omega
 have HBC:=hide (h.rw.nc i hin);have FOW:=hide (show ∀q,vf.ownBlock=some q→q<w.heap.size from fun q hq=>(h.sb.fr.own.lt q hq).2);have HO:=hide (And.intro ho hl);have nsb:¬w.heap.size=b:=by omega
 have nbs:¬b=w.heap.size:=by omega
 clear h hp hi XA ho hl;go_enter Tryz.func336,Tryz.ntmps336;go_wp2_with fail;obtain⟨W1,hW1⟩:∃W,W=(w.setCell ⟨b,6,none⟩ (iv i)).alloc (.cells #[.pointer (some ⟨b,0,none⟩)] 238):=⟨_,rfl⟩;have H1:=hide (show SAt B W1 b { x with hand:=(i:Int) } ar kr v4 v8 br cB cO bn pb pa pk kn hd vf F vk K role by rw[hW1];exact((unhide H).hand (i:Int)).ext ((Ext.refl _).alloc _));have X1:=hide (show Ext a W1 by rw[hW1];exact(hx.setCell (p:=⟨b,6,none⟩) (show a.heap.size≤b by omega) _).alloc _)
 have r1:W1.cell? ⟨w.heap.size,0,none⟩=some (.pointer (some ⟨b,0,none⟩)):=by
  rw[hW1];have:w.heap.size=(w.setCell ⟨b,6,none⟩ (iv i)).heap.size:=by simp [World.setCell]
  rw[this];simp [go_sem]
 rw[←hW1];clear hW1 c6 f6;refine(atHand_some b x.cells.length kn bn i _ (unhide H1).sb.bx.2.2.2.2.2.2.1 (unhide H1).sb.n13 hin).mono ?_;rintro e w2 ⟨rfl,x2⟩;have H2:=hide ((unhide H1).ext x2);have X2:=hide ((unhide X1).trans x2);have r2:=x2.keep r1;obtain⟨m0,m1⟩:=(unhide H2).sb.nd i hin;have p0:w2.cell? ⟨cB i,cO i,none⟩=some (iv (x.c i).st):=((unhide H2).rw.s i hin).1;have hs2:w.heap.size<w2.heap.size:=cell_lt r2;clear r1 x2 H1 X1;cases q2:((x.c i).st == 2)
 ·have ES:=hide (show unit6 x=dropH { x with hand:=(i:Int) } i by rw[unhide EU];unfold shutH;rw[if_neg (by simpa using q2)]);have NS:=hide (show(x.c i).st≠2 by simpa using q2);have n13:w2.cell? ⟨b,13,none⟩=some (.slice (some ⟨bn,0,none⟩) x.cells.length kn):=(unhide H2).sb.n13;go_wp2_with fail;clear q2;by_cases hlast:i+1=x.cells.length
  ·cases q0:((x.c i).st == 0)
   ·skip
    have EF:=hide (show unit6 x={ x with cells:=x.cells,hand:=(i:Int) } by rw[unhide ES];unfold dropH;rw[if_neg (fun e=>by have:=e.2;simp at q0;exact q0 this)]);have g1:((i:Int) == (x.cells.length:Int)-1)=true:=by simp;omega
    go_quiet (fail);go_wp2_with fail;go_ret;exact⟨by rw[unhide EP];rfl,by rw[unhide EF];exact⟨_,_,_,_,_,(unhide H2).ext ((Ext.refl _).drewN _),(unhide HO).1,Or.inr ⟨unhide NS,rfl⟩⟩,(unhide X2).drewN _⟩
   ·skip
    have EF:=hide (show unit6 x={ x with cells:=(x.cells).take i,hand:=(i:Int) } by rw[unhide ES];unfold dropH;rw[if_pos ⟨by simpa using hlast,(show(x.c i).st=0 by simpa using q0)⟩]);have g1:((i:Int) == (x.cells.length:Int)-1)=true:=by simp;omega
    have k1:(i:Int)≤(kn:Int):=by omega
    have k0:(0:Int)≤(i:Int):=by omega
    have f13:=(unhide H2).sb.nb.2 13;have hbW:b<w2.heap.size:=(unhide H2).sb.nb.1;have FN:=hide (show ∀W',Ext w2 W'→SAt B (W'.setCell ⟨b,13,none⟩ (.slice (some ⟨bn,0,none⟩) i kn)) b { x with cells:=(x.cells).take i,hand:=(i:Int) } ar kr v4 v8 br cB cO bn pb pa pk kn hd vf F vk K role∧Ext a (W'.setCell ⟨b,13,none⟩ (.slice (some ⟨bn,0,none⟩) i kn)) from fun W' xw=>⟨((unhide H2).ext xw).drop i (by simpa using hlast),((unhide X2).trans xw).setCell (p:=⟨b,13,none⟩) (show a.heap.size≤b by omega) _⟩);clear hlast;go_quiet (fail);obtain⟨d1,hd1⟩:∃m,m=nq:=⟨_,rfl⟩;go_wp2_with fail
    go_region
    all_goals
     go_wp2_with fail;go_ret
     first | exact⟨by rw[unhide EP];rfl,by rw[unhide EF];exact⟨_,_,_,_,_,((unhide FN _ ((Ext.refl _).drewN _)).1).ext (Ext.refl _).drew,(unhide HO).1,Or.inr ⟨unhide NS,rfl⟩⟩,((unhide FN _ ((Ext.refl _).drewN _)).2).drew⟩ | exact⟨by rw[unhide EP];rfl,by rw[unhide EF];exact⟨_,_,_,_,_,(unhide FN _ ((Ext.refl _).drewN _)).1,(unhide HO).1,Or.inr ⟨unhide NS,rfl⟩⟩,(unhide FN _ ((Ext.refl _).drewN _)).2⟩
  ·skip
   have EF:=hide (show unit6 x={ x with cells:=x.cells,hand:=(i:Int) } by rw[unhide ES];unfold dropH;rw[if_neg (fun e=>hlast (by simpa using e.1))]);have g1:((i:Int) == (x.cells.length:Int)-1)=false:=by simp;omega
   go_quiet (fail);go_wp2_with fail;go_ret;exact⟨by rw[unhide EP];rfl,by rw[unhide EF];exact⟨_,_,_,_,_,(unhide H2).ext ((Ext.refl _).drewN _),(unhide HO).1,Or.inr ⟨unhide NS,rfl⟩⟩,(unhide X2).drewN _⟩
 ·have ES:=hide (show unit6 x=dropH { x with cells:=x.cells.set i Cl0,hand:=(i:Int) } i by rw[unhide EU];unfold shutH;rw[if_pos (by simpa using q2)]);have NS:=hide (show(x.c i).st=2 by simpa using q2);go_wp2_with fail;refine(giveBack_any (unhide H2) i hin (unhide HO).1 (unhide HO).2 a ha (unhide X2)).mono ?_;rintro e w3 ⟨rfl,g3,x3⟩;obtain⟨pa',pk',vf',F',role',h3,ho3,pm3⟩:=g3.1;have r3:w3.cell? ⟨w.heap.size,0,none⟩=some (.pointer (some ⟨b,0,none⟩)):=(World.cell?_of_block (a:=⟨w.heap.size,0,none⟩) (g3.2 w.heap.size hs2 nsb (by have:=(unhide HBC).1.1;omega) (fun e=>Nat.lt_irrefl _ (unhide FOW _ e)))).trans r2;have H3:=hide (show SAt B w3 b { x with cells:=x.cells.set i Cl0,hand:=(i:Int) } ar kr v4 v8 br cB cO bn pb pa' pk' kn hd vf' F' vk K role' from h3);have X3:=hide x3;have HP3:=hide (And.intro ho3 pm3);clear g3 x3 h3 ho3 pm3 m0 m1 p0 r2 hs2 H2 X2 q2;have hl3:(x.cells.set i Cl0).length=x.cells.length:=by simp
  obtain⟨m0,m1⟩:=(unhide H3).sb.nd i (by rw[hl3];exact hin)
  have p0:w3.cell? ⟨cB i,cO i,none⟩=some (iv 0):=by
   have:=((unhide H3).rw.s i (by rw[hl3];exact hin)).1;exact this.trans (by simp [Hp.c,hin];rfl)
  have n13:w3.cell? ⟨b,13,none⟩=some (.slice (some ⟨bn,0,none⟩) x.cells.length kn):=by have:=(unhide H3).sb.n13;rw[hl3] at this;exact this
  have hs3:w.heap.size<w3.heap.size:=cell_lt r3;clear hl3;go_wp2_with fail;by_cases hlast:i+1=x.cells.length
  ·skip
   have EF:=hide (show unit6 x={ x with cells:=(x.cells.set i Cl0).take i,hand:=(i:Int) } by rw[unhide ES];unfold dropH;rw[if_pos ⟨by simpa using hlast,by simp [Hp.c,hin];rfl⟩]);have g1:((i:Int) == (x.cells.length:Int)-1)=true:=by simp;omega
   have k1:(i:Int)≤(kn:Int):=by omega
   have k0:(0:Int)≤(i:Int):=by omega
   have f13:=(unhide H3).sb.nb.2 13;have hbW:b<w3.heap.size:=(unhide H3).sb.nb.1;have FN:=hide (show ∀W',Ext w3 W'→SAt B (W'.setCell ⟨b,13,none⟩ (.slice (some ⟨bn,0,none⟩) i kn)) b { x with cells:=(x.cells.set i Cl0).take i,hand:=(i:Int) } ar kr v4 v8 br cB cO bn pb pa' pk' kn hd vf' F' vk K role'∧Ext a (W'.setCell ⟨b,13,none⟩ (.slice (some ⟨bn,0,none⟩) i kn)) from fun W' xw=>⟨((unhide H3).ext xw).drop i (by simpa using hlast),((unhide X3).trans xw).setCell (p:=⟨b,13,none⟩) (show a.heap.size≤b by omega) _⟩);clear hlast;go_quiet (fail);obtain⟨d1,hd1⟩:∃m,m=nq:=⟨_,rfl⟩;go_wp2_with fail
   go_region
   all_goals
    go_wp2_with fail;go_ret
    first | exact⟨by rw[unhide EP];rfl,by rw[unhide EF];exact⟨_,_,_,_,_,((unhide FN _ ((Ext.refl _).drewN _)).1).ext (Ext.refl _).drew,(unhide HP3).1,Or.inl ⟨unhide NS,(unhide HP3).2⟩⟩,((unhide FN _ ((Ext.refl _).drewN _)).2).drew⟩ | exact⟨by rw[unhide EP];rfl,by rw[unhide EF];exact⟨_,_,_,_,_,(unhide FN _ ((Ext.refl _).drewN _)).1,(unhide HP3).1,Or.inl ⟨unhide NS,(unhide HP3).2⟩⟩,(unhide FN _ ((Ext.refl _).drewN _)).2⟩
  ·skip
   have EF:=hide (show unit6 x={ x with cells:=x.cells.set i Cl0,hand:=(i:Int) } by rw[unhide ES];unfold dropH;rw[if_neg (fun e=>hlast (by simpa using e.1))]);have g1:((i:Int) == (x.cells.length:Int)-1)=false:=by simp;omega
   go_quiet (fail);go_wp2_with fail;go_ret;exact⟨by rw[unhide EP];rfl,by rw[unhide EF];exact⟨_,_,_,_,_,(unhide H3).ext ((Ext.refl _).drewN _),(unhide HP3).1,Or.inl ⟨unhide NS,(unhide HP3).2⟩⟩,(unhide X3).drewN _⟩
theorem sweep_white[Inhabited ProtD]{B:Nat}{w:World}{b:Nat}{x:Hp}{ar:Option Addr}{kr:Nat}{v4 v8:Value}{br bn:Nat}{cB cO:Nat→Nat}{pb:Nat→Nat}{pa:Nat→Option Addr}{pk:Nat→Nat}{kn hd:Nat}{vf:Value}{F:List Int}{vk:Value}{K:List Nat}{role:Nat→Nat}(h:SAt B w b x ar kr v4 v8 br cB cO bn pb pa pk kn hd vf F vk K role)(s:Snd x)(hp:x.phase=3)(i:Nat)(hi:x.hand=(i:Int))(hin:i<x.cells.length)(hs:whB (x.c i)=true)(ho:Ho F)(hl:F.length≤1000000000)(a:World)(ha:a.heap.size≤B)(hx:Ext a w):
  Calls Tryz.prog 331 #[.agg #[.pointer (some ⟨b,0,none⟩)]] w fun e w'=>e=.returned (nowV (unit3 x).phase b)∧Hid (∃pa' pk' vf' F' role',SAt B w' b (unit3 x) ar kr v4 v8 br cB cO bn pb pa' pk' kn hd vf' F' vk K role'∧Ho F'∧F'.Perm ((i:Int)::F))∧Ext a w':=by
 have ei:x.hand.toNat=i:=by omega
 have E:=hide (show unit3 x={ x with used:=x.used-(1+(x.c i).prs.length),cells:=x.cells.set i Cl0,hand:=(i:Int)+1 } by
  unfold unit3;rw[if_neg (by omega),ei,if_pos hs,hi])
 have EP:=hide (show(unit3 x).phase=3 by rw[unhide E];exact hp)
 have V:=hide (show IntKind.i64.wrap (x.used-(1+((x.c i).prs.length:Int)))=x.used-(1+((x.c i).prs.length:Int)) by
  have hlp:=s.ok.p200 i hin;have hu1:x.used≤4000:=by have:=s.r3.2;have:=s.r1.room;omega
  have hu0:0≤x.used:=by have:=s.r3.1;omega
  rw[IntKind.wrap_i64];omega)
 have LP:=hide (s.ok.p200 i hin);have H:=hide h;have n8:=s.ok.n8;have XA:=(Ext.refl w).alloc (.cells #[.pointer (some ⟨b,0,none⟩)] 235);have c6:=h.sb.bx.2.2.2.2.2.2.1;rw[hi] at c6;have QA:=hide (atHand_some b x.cells.length kn bn i _ (XA.keep c6) (XA.keep h.sb.n13) hin);have XA2:=hide XA;have hbw:b<w.heap.size:=h.sb.nb.1;have lo:=h.sb.lo.1;have hn:0<x.cells.length:=by omega
 have HI:=hide hi;have WH:=hide hs;have HBC:=hide (h.rw.nc i hin);have FOW:=hide (show ∀q,vf.ownBlock=some q→q<w.heap.size from fun q hq=>(h.sb.fr.own.lt q hq).2);have HO:=hide (And.intro ho hl);clear h hp XA hi c6 ei hs s ho hl;go_enter Tryz.func331,Tryz.ntmps331;go_wp2_with fail;refine(unhide QA).mono ?_;rintro e w1 ⟨rfl,x1⟩;have r0:w1.cell? ⟨w.heap.size,0,none⟩=some (.pointer (some ⟨b,0,none⟩)):=x1.keep (by simp [go_sem]);have X1:=hide ((unhide XA2).trans x1);have H1:=hide ((unhide H).ext (unhide X1));have m1:=((unhide H1).sb.nd i hin).2;have QS:=hide (swhite_any (x.c i) bn i (cB i) (cO i) w1 m1 ((unhide H1).rw.s i hin));rw[unhide WH] at QS;clear x1 XA2 QA;go_wp2_with fail;refine(unhide QS).mono ?_;rintro e w2 ⟨rfl,hw2⟩;subst hw2;have c1:=(unhide H1).sb.bx.2.1;have f1:=(unhide H1).sb.nb.2 1;have hb1:b<w2.heap.size:=cell_lt c1;have hs2:w.heap.size<w2.heap.size:=cell_lt r0;have nsb:¬w.heap.size=b:=by omega
 have nbs:¬b=w.heap.size:=by omega
 clear m1 QS;go_wp2_with fail;go_region_with (go_at_call 119;refine(units_any (x.c i) bn (i*2) (cB i) (cO i) (pa i) (pk i) _ ((unhide H1).ext (Ext.refl w2).drew |>.sb.nd i hin).2 ((unhide H1).ext (Ext.refl w2).drew |>.rw.p7 i hin) (by have:=unhide LP;omega)).mono ?_;rintro e w3 ⟨rfl,hw3⟩;subst hw3)
 all_goals
  rw[unhide V];obtain⟨W3,hW3⟩:∃W,W=(w2.setCell ⟨b,1,none⟩ (iv (x.used-(1+((x.c i).prs.length:Int))))).drew:=⟨_,rfl⟩;have H3:=hide (show SAt B W3 b { x with used:=x.used-(1+((x.c i).prs.length:Int)) } ar kr v4 v8 br cB cO bn pb pa pk kn hd vf F vk K role by rw[hW3];exact((unhide H1).usedTo _).ext (Ext.refl _).drew);have X3:=hide (show Ext a W3 by rw[hW3];exact((hx.trans (unhide X1)).setCell (p:=⟨b,1,none⟩) (show a.heap.size≤b by omega) _).drew);have r3:W3.cell? ⟨w.heap.size,0,none⟩=some (.pointer (some ⟨b,0,none⟩)):=by rw[hW3,drew_cell,cell_other _ (.inl nbs)];exact r0
  rw[←hW3];clear hW3 c1 f1 r0 hs2 hb1;have hs3:w.heap.size<W3.heap.size:=cell_lt r3;go_wp2_with fail;refine(giveBack_any (unhide H3) i hin (unhide HO).1 (unhide HO).2 a ha (unhide X3)).mono ?_;rintro e w4 ⟨rfl,g4,x4⟩;obtain⟨pa',pk',vf',F',role',H4,ho4,pm4⟩:=g4.1;have r4:w4.cell? ⟨w.heap.size,0,none⟩=some (.pointer (some ⟨b,0,none⟩)):=(World.cell?_of_block (a:=⟨w.heap.size,0,none⟩) (g4.2 w.heap.size hs3 nsb (by have:=(unhide HBC).1.1;omega) (fun e=>Nat.lt_irrefl _ (unhide FOW _ e)))).trans r3;have c6:w4.cell? ⟨b,6,none⟩=some (iv i):=by have:=H4.sb.bx.2.2.2.2.2.2.1;exact this.trans (by rw[unhide HI])
  have f6:=H4.sb.nb.2 6;have hb4:b<w4.heap.size:=cell_lt c6;have hs4:w.heap.size<w4.heap.size:=cell_lt r4;have FN:=hide (And.intro (H4.hand ((i:Int)+1)) (And.intro ho4 pm4));have XN:=hide (x4.setCell (p:=⟨b,6,none⟩) (show a.heap.size≤b by omega) (iv ((i:Int)+1)));clear g4 H4 r3 hs3 ho4 pm4 x4;go_wp2_with fail;go_ret;exact⟨by rw[unhide EP];rfl,by rw[unhide E];exact⟨_,_,_,_,_,unhide FN⟩,unhide XN⟩
structure Edit(x:Hp)(i:Nat)(c:Cl):Prop where
 hi:i<x.cells.length
 st:(x.c i).st=1
 nd:¬Doomed x i
 e:c.st=(x.c i).st∧c.kind=(x.c i).kind∧c.weak=(x.c i).weak∧c.born=(x.c i).born∧c.color=(x.c i).color∧c.to=(x.c i).to
 la:0≤c.last∧c.last≤3
 ln:c.prs.length=(x.c i).prs.length
 ld:∀k,k<c.prs.length→Leads x (c.p k).key (¬Mended x i k)∧Leads x (c.p k).val (¬Mended x i k)
 lk:Marking x→∀k,k<looked x i→¬White x (c.p k).key∧¬White x (c.p k).val
 sp:Speaks c→Marking x→c.color=0→¬(x.phase=2∨(i:Int)<x.hand)
theorem setcH_c(x:Hp)(i:Nat)(c:Cl)(hi:i<x.cells.length)(q:Nat):(setcH x i c).c q=if q=i then c else x.c q:=Hp.c_set x i c hi q
theorem setcH_len(x:Hp)(i:Nat)(c:Cl):(setcH x i c).cells.length=x.cells.length:=by simp [setcH]
theorem Snd.edit{x:Hp}{i:Nat}{c:Cl}(h:Snd x)(t:Edit x i c):Snd (setcH x i c):=by
 obtain⟨e1,e2,e3,e4,e5,e6⟩:=t.e;have zc:=setcH_c x i c t.hi;have zl:=setcH_len x i c
 have sm:∀q,((setcH x i c).c q).st=(x.c q).st∧((setcH x i c).c q).born=(x.c q).born∧((setcH x i c).c q).color=(x.c q).color∧((setcH x i c).c q).to=(x.c q).to∧((setcH x i c).c q).prs.length=(x.c q).prs.length:=fun q=>by
  rw[zc q];by_cases e:q=i
  ·rw[if_pos e,e];exact⟨e1,e4,e5,e6,t.ln⟩
  ·rw[if_neg e];exact⟨rfl,rfl,rfl,rfl,rfl⟩
 have dm:∀q,Doomed (setcH x i c) q↔Doomed x q:=fun q=>by unfold Doomed;rw[(sm q).1,(sm q).2.2.1];exact Iff.rfl
 have ld:∀(y:Wd) (m:Prop),Leads x y m→Leads (setcH x i c) y m:=fun y m l=>⟨by rw[zl];exact l.1,fun hk=>by rw[(sm _).1,dm];exact l.2 hk⟩
 have wh:∀y:Wd,White (setcH x i c) y→White x y:=fun y hy=>⟨hy.1,by rw[←(sm _).2.2.1];exact hy.2⟩
 refine⟨?_,⟨fun q hq=>?_,fun q hq h0 k hk=>?_⟩,⟨?_,h.r3.2⟩,⟨fun j hj=>ld _ _ (h.r4.1 j hj),fun q hq=>?_⟩,⟨h.r5.1,fun q hq=>?_,fun g hg=>?_⟩,⟨h.r6.1,fun hp=>?_,fun hp=>?_,h.r6.2.2.2⟩,fun hm q hq=>?_,fun q hq=>?_⟩
 ·exact⟨h.r1.room,h.r1.regs,by rw[zl];exact h.r1.cells,by rw[zl];exact h.r1.gray,h.r1.born,h.r1.rounds,h.r1.forced,h.r1.per,h.r1.start,h.r1.phase,by rw[zl];exact h.r1.hand,h.r1.sub⟩
 ·rw[zl] at hq;have ok:=h.r2.1 q hq;by_cases e:q=i
  ·subst e;refine .inr (.inr ⟨by rw[(sm q).1];exact t.st,?_⟩);rw[zc q,if_pos rfl];have la:=t.la;have ln:=t.ln;have s1:=t.st;rcases ok with o | o | ⟨_,o⟩
   ·omega
   ·omega
   ·unfold UsedOk at o ⊢;have:(setcH x q c).born=x.born:=rfl;omega
  ·unfold CellOk;rw[zc q,if_neg e];rcases ok with o | ⟨o,m⟩ | o
   ·exact .inl o
   ·refine .inr (.inl ⟨o,m.1,m.2.1,m.2.2.1,m.2.2.2.1,by rw[(sm _).1];exact m.2.2.2.2.1,fun hp k hk=>by rw[(sm k).1];exact m.2.2.2.2.2 hp k hk⟩)
   ·exact .inr (.inr o)
 ·rw[zl] at hq;rw[(sm q).1] at h0;rw[(sm k).1,(sm k).2.1,(sm k).2.2.2.1,(sm q).1,(sm q).2.1,(sm q).2.2.2.1];exact h.r2.2 q hq h0 k hk
 ·have u:units (setcH x i c).cells=units x.cells:=units_set x.cells i c t.hi (by rw[Hp.c_eq x i t.hi];unfold unitsOf;rw[e1,t.ln]);rw[u];exact h.r3.1
 ·rw[zl] at hq;rw[zc q];by_cases e:q=i
  ·subst e;rw[if_pos rfl];refine⟨fun d=>t.nd ((dm q).1 d.1),fun k hk=>⟨fun d=>absurd ((dm q).1 d) t.nd,fun _=>?_⟩⟩;have:=t.ld k hk;exact⟨ld _ _ this.1,ld _ _ this.2⟩
  ·rw[if_neg e];have o:=h.r4.2 q hq;refine⟨fun d=>o.1 ⟨(dm q).1 d.1,d.2⟩,fun k hk=>?_⟩;have p:=o.2 k hk;refine⟨fun d=>by rw[zl];exact p.1 ((dm q).1 d),fun d=>?_⟩;have:=p.2 (fun d2=>d ((dm q).2 d2));exact⟨ld _ _ this.1,ld _ _ this.2⟩
 ·rw[zl] at hq;have o:=h.r5.2.1 q hq;unfold ColorOk at o ⊢;rw[(sm q).2.2.1];exact o
 ·rw[zl];exact h.r5.2.2 g hg
 ·have r:=h.r6.2.1 hp;refine⟨r.1,r.2.1,fun hg=>?_⟩;rw[(sm _).2.2.2.2];exact r.2.2 hg
 ·have r:=h.r6.2.2.1 hp;rw[zl,(sm _).1,(sm _).2.2.2.2];exact r
 ·rw[zl] at hq;have o:=h.r7 hm q hq
  have lk:looked (setcH x i c) q=looked x q:=by
   unfold looked;rw[(sm q).2.2.1,(sm q).2.2.2.2];rfl
  rw[lk,zc q];by_cases e:q=i
  ·subst e;rw[if_pos rfl];refine⟨fun hb=>t.sp hb.1 hm hb.2.1 hb.2.2,fun k hk=>?_⟩;have:=t.lk hm k hk;exact⟨fun w=>this.1 (wh _ w),fun w=>this.2 (wh _ w)⟩
  ·rw[if_neg e];exact⟨o.1,fun k hk=>⟨fun w=>(o.2 k hk).1 (wh _ w),fun w=>(o.2 k hk).2 (wh _ w)⟩⟩
 ·rw[zl] at hq;rw[(sm q).1];exact h.r8 q hq
theorem shade_setc(x:Hp)(i t:Nat)(c:Cl)(hi:i<x.cells.length)(hs:c.st=(x.c i).st)(hc:c.color=(x.c i).color):shadeH (setcH x i c) t=setcH (shadeH x t) i (if shadeB x t=true∧t=i then grayC c else c):=by
 have zc:=setcH_c x i c hi t
 have eb:shadeB (setcH x i c) t=shadeB x t:=by
  unfold shadeB whB;rw[zc];by_cases e:t=i
  ·rw[if_pos e,e,hs,hc];rfl
  ·rw[if_neg e];rfl
 unfold shadeH;rw[eb];by_cases q:shadeB x t=true
 ·rw[if_pos q,if_pos q,zc];by_cases e:t=i
  ·rw[if_pos e,if_pos ⟨q,e⟩,e];simp [setcH]
  ·rw[if_neg e,if_neg (fun h=>e h.2)];simp only [setcH];rw[List.set_comm _ _ (fun h=>e h.symm)]
 ·rw[if_neg q,if_neg q,if_neg (fun h=>q h.1)]
theorem shade_still{x:Hp}(hm:¬Marking x)(t:Nat):shadeH x t=x:=by
 unfold shadeH;rw[if_neg];intro h;exact hm (shadeB_parts h).1
theorem Leads.shade{x:Hp}{y:Wd}{m:Prop}(h:Leads x y m)(t:Nat)(ht:t<x.cells.length):Leads (shadeH x t) y m:=by
 by_cases hm:Marking x
 ·refine⟨by rw[(shade_same x t).2.2.2.2.1];exact h.1,fun hk=>?_⟩;rw[(un_parts (shade_un x t ht _)).1];rcases h.2 hk with o | o
  ·exact .inl o
  ·refine .inr ⟨o.1,fun d=>?_⟩;have:=d.1;rw[(shade_same x t).2.2.2.2.2.1] at this;unfold Marking at hm;omega
 ·rw[shade_still hm];exact h
theorem Snd.put{x:Hp}(h:Snd x)(i k:Nat)(hi:i<x.cells.length)(s1:(x.c i).st=1)(nd:¬Doomed x i)(hk:k<(x.c i).prs.length)(y:Wd)(hy:Leads x y False)(p:Pr)(hp:(p.key=y∧p.val=((x.c i).p k).val)∨(p.val=y∧p.key=((x.c i).p k).key)):Snd (shadeW (setcH x i { x.c i with prs:=(x.c i).prs.set k p }) y):=by
 have pk:∀j,j<(x.c i).prs.length→({ x.c i with prs:=(x.c i).prs.set k p }:Cl).p j=if j=k then p else (x.c i).p j:=fun j hj=>by
  unfold Cl.p;simp only [List.getD_eq_getElem?_getD,List.getElem?_set];by_cases e:k=j
  ·rw[if_pos e,if_pos e.symm,if_pos (by omega)];rfl
  ·rw[if_neg e,if_neg (fun h=>e h.symm)]
 have key:∀(z:Hp) (c:Cl),Snd z→z.cells.length=x.cells.length→(∀q,(z.c q).st=(x.c q).st)→(z.c i).prs=(x.c i).prs→z.phase=x.phase→z.hand=x.hand→z.sub=x.sub→¬Doomed z i→(∀(u:Wd) (m:Prop),Leads x u m→Leads z u m)→(Marking z→¬White z y)→c={ z.c i with prs:=(x.c i).prs.set k p }→Snd (setcH z i c):=fun z c sz zl zs zp e4 e5 e7 ndz ldz wz ec=>by
  have me:∀j,Mended z i j↔Mended x i j:=fun j=>by unfold Mended;rw[e4,e5,e7]
  have cp:∀j,c.p j=({ x.c i with prs:=(x.c i).prs.set k p }:Cl).p j:=fun j=>by rw[ec];rfl
  have la:0≤(z.c i).last∧(z.c i).last≤3:=by
   have ok:=sz.r2.1 i (by rw[zl];exact hi);have:=zs i;unfold CellOk UsedOk Bare MovedOk Bare at ok;omega
  refine sz.edit ⟨by rw[zl];exact hi,by rw[zs];exact s1,ndz,by rw[ec];exact⟨rfl,rfl,rfl,rfl,rfl,rfl⟩,by rw[ec];exact la,by rw[ec,zp];simp,fun j hj=>?_,fun hm j hj=>?_,fun hsp hm hc=>?_⟩
  ·have hj2:j<(x.c i).prs.length:=by rw[ec] at hj;simpa using hj
   have o:=((h.r4.2 i hi).2 j hj2).2 nd;have em:(¬Mended z i j)=(¬Mended x i j):=propext (not_congr (me j));rw[em,cp j,pk j hj2];have hyl:∀m,Leads x y m:=fun m=>⟨hy.1,fun e=>by rcases hy.2 e with o | o;exact o.2.elim;exact .inr o⟩
   by_cases e:j=k
   ·rw[if_pos e];rw[e] at o;rcases hp with⟨a,b⟩ | ⟨a,b⟩
    ·rw[a,b,e];exact⟨ldz _ _ (hyl _),ldz _ _ o.2⟩
    ·rw[a,b,e];exact⟨ldz _ _ o.1,ldz _ _ (hyl _)⟩
   ·rw[if_neg e];exact⟨ldz _ _ o.1,ldz _ _ o.2⟩
  ·have o:=(sz.r7 hm i (by rw[zl];exact hi)).2 j hj
   have hj2:j<(x.c i).prs.length:=by
    unfold looked at hj;rw[zp] at hj
    split at hj
    ·exact hj
    ·split at hj
     ·rename_i hd;have r:=(sz.r6.2.1 hd.1).2.2 hd.2.1;have eg:z.g0=i:=by unfold Hp.g0;rw[hd.2.2];simp
      rw[eg,zp] at r;omega
     ·omega
   have zpj:(z.c i).p j=(x.c i).p j:=by simp only [Cl.p,zp]
   rw[zpj] at o;rw[cp j,pk j hj2];by_cases e:j=k
   ·rw[if_pos e];rw[e] at o;rcases hp with⟨a,b⟩ | ⟨a,b⟩
    ·rw[a,b];exact⟨wz hm,o.2⟩
    ·rw[a,b];exact⟨o.1,wz hm⟩
   ·rw[if_neg e];exact o
  ·rw[ec] at hsp hc;exact fun hd=>(sz.r7 hm i (by rw[zl];exact hi)).1 ⟨hsp,hc,hd⟩
 unfold shadeW;by_cases e:(y.k == 2)=true
 ·rw[if_pos e];have e2:y.k=2:=by simpa using e
  have ft:y.a.toNat<x.cells.length:=by have:=hy.1;unfold Formed at this;omega
  have st:(x.c y.a.toNat).st=1:=by
   rcases hy.2 e2 with o | o
   ·exact o.2.elim
   ·exact o.1
  rw[shade_setc x i y.a.toNat { x.c i with prs:=(x.c i).prs.set k p } hi rfl rfl];have un:=shade_un x y.a.toNat ft;refine key (shadeH x y.a.toNat) _ (h.shade _ ft) (shade_same x _).2.2.2.2.1 (fun q=>(un_parts (un q)).1) (un_parts (un i)).2.2.2.2.2.2 (shade_same x _).2.2.2.2.2.1 (shade_same x _).2.2.2.2.2.2.1 (shade_same x _).2.2.2.2.2.2.2.1 (fun d=>?_) (fun u m l=>l.shade _ ft) (fun hm w=>?_) ?_
  ·by_cases hm:Marking x
   ·have:=d.1;rw[(shade_same x _).2.2.2.2.2.1] at this;unfold Marking at hm;omega
   ·rw[shade_still hm] at d;exact nd d
  ·have hm2:Marking x:=by unfold Marking at hm ⊢;rw[(shade_same x _).2.2.2.2.2.1] at hm;exact hm
   exact not_white_shade x _ ft hm2 st w.2
  ·rw[shade_c x _ ft i];by_cases q:shadeB x y.a.toNat=true∧y.a.toNat=i
   ·rw[if_pos q,if_pos ⟨q.1,q.2.symm⟩,q.2];rfl
   ·rw[if_neg q,if_neg (fun h=>q ⟨h.1,h.2.symm⟩)]
 ·rw[if_neg e];have e2:y.k≠2:=by simpa using e
  exact key x _ h rfl (fun _=>rfl) rfl rfl rfl rfl nd (fun _ _ l=>l) (fun _ w=>e2 w.1) rfl
theorem Snd.want{x:Hp}(h:Snd x)(i:Nat)(hi:i<x.cells.length)(s1:(x.c i).st=1)(nd:¬Doomed x i):Snd (shadeH (setcH x i (lastC (x.c i) 1)) i):=by
 rw[shade_setc x i i (lastC (x.c i) 1) hi rfl rfl];have un:=shade_un x i hi i;have hc:=shade_c x i hi i;have sz:=h.shade i hi;have zl:=(shade_same x i).2.2.2.2.1
 have ec:(if shadeB x i=true∧i=i then grayC (lastC (x.c i) 1) else lastC (x.c i) 1)=lastC ((shadeH x i).c i) 1:=by
  rw[hc];by_cases q:shadeB x i=true
  ·rw[if_pos ⟨q,rfl⟩,if_pos ⟨q,rfl⟩];rfl
  ·rw[if_neg (fun h=>q h.1),if_neg (fun h=>q h.1)]
 rw[ec];have s2:((shadeH x i).c i).st=1:=by rw[(un_parts un).1];exact s1
 have nd2:¬Doomed (shadeH x i) i:=fun d=>by
  by_cases hm:Marking x
  ·have:=d.1;rw[(shade_same x _).2.2.2.2.2.1] at this;unfold Marking at hm;omega
  ·rw[shade_still hm] at d;exact nd d
 refine sz.edit ⟨by rw[zl];exact hi,s2,nd2,⟨rfl,rfl,rfl,rfl,rfl,rfl⟩,⟨by simp [lastC],by simp [lastC]⟩,rfl,fun k hk=>((sz.r4.2 i (by rw[zl];exact hi)).2 k hk).2 nd2,fun hm k hk=>(sz.r7 hm i (by rw[zl];exact hi)).2 k hk,fun _ hm hcol=>?_⟩;have hm2:Marking x:=by unfold Marking at hm ⊢;rw[(shade_same x _).2.2.2.2.2.1] at hm;exact hm
 exact absurd hcol (not_white_shade x i hi hm2 s1)
end Go.Proofs.YtddkhnclmeikfaaGreat
