import Derived.Test.YtddkhnclmeikfaaGreatMa
set_option maxRecDepth 100000
set_option maxHeartbeats 2000000
namespace Go.Proofs.YtddkhnclmeikfaaGreat
open Go.RowKit
attribute [local go_sem ↓] Go.wp_at_zero Go.wp_at_succ
theorem look_any[Inhabited ProtD]{B:Nat}{w:World}{b:Nat}{x:Hp}{ar:Option Addr}{kr:Nat}{v4 v8:Value}{br bn:Nat}{cB cO:Nat→Nat}{pb:Nat→Nat}{pa:Nat→Option Addr}{pk:Nat→Nat}{kn hd:Nat}{vf:Value}{F:List Int}{vk:Value}{K:List Nat}{role:Nat→Nat}(h:SAt B w b x ar kr v4 v8 br cB cO bn pb pa pk kn hd vf F vk K role)(s:Snd x)(hp:x.phase=2)(hg:x.gray=[])(a:World)(ha:a.heap.size≤B)(hx:Ext a w):
  Calls Tryz.prog 330 #[.agg #[.pointer (some ⟨b,0,none⟩)]] w fun e w'=>e=.returned (nowV (unit2 x).phase b)∧Hid (SAt B w' b (unit2 x) ar kr v4 v8 br cB cO bn pb pa pk kn hd vf F vk K role)∧Ext a w':=by
 have EU:=hide (show unit2 x=if (lookH x).gray=[] then toPh (lookH x) 3 0 else lookH x by unfold unit2;rw[hg]);have H:=hide h;have S:=hide s;have SH:=hide (lkH_shd s hp);have HP:=hide hp;have XA:=(Ext.refl w).alloc (.cells #[.pointer (some ⟨b,0,none⟩)] 234);have r0:0<x.regs.length:=by have:=s.r1.regs;omega
 have r16:x.regs.length≤16:=by have:=s.r1.regs;omega
 have n8:=s.ok.n8;have c3:=h.sb.bx.2.2.2.1;rw[h.sb.ha r0] at c3;have hbw:b<w.heap.size:=h.sb.nb.1;have lo:=h.sb.lo.1;have HS:=hide (h.ext XA);have XS:=hide (hx.trans XA);have d3:=XA.keep c3;have NWC:=hide (show ∀j,j<x.cells.length→w.heap.size≠cB j from fun j hl e=>by have:=(h.rw.nc j hl).1.1;omega);have M0:=hide (show(w.alloc (.cells #[.pointer (some ⟨b,0,none⟩)] 234)).cell? ⟨w.heap.size,0,none⟩=some (.pointer (some ⟨b,0,none⟩)) by simp [go_sem]);clear h hp hg s c3 XA;go_enter Tryz.func330,Tryz.ntmps330;go_wp2_with fail;go_loopw [13] (fun i wr=>∃j:Nat,j≤x.regs.length∧i=.int .i64 j∧Hid (SAt B wr b (lkH x j) ar kr v4 v8 br cB cO bn pb pa pk kn hd vf F vk K role)∧Hid (Ext a wr)∧Hid (wr.cell? ⟨w.heap.size,0,none⟩=some (.pointer (some ⟨b,0,none⟩)))) (fun i _=>x.regs.length-(intOf i).toNat)
 case atStart=>exact⟨0,Nat.zero_le _,rfl,unhide HS,unhide XS,unhide M0⟩
 case round=>
  clear HS XS d3;obtain⟨j,hj,rfl,hG,hxr,hm0⟩:=hrel;by_cases hlt:j<x.regs.length
  ·have er:(lkH x j).regs=x.regs:=(unhide SH j).regs;obtain⟨e0,e1,e2⟩:=(unhide hG).rw.r j (by rw[er];exact hlt);have eq:(lkH x j).regs[j]'(by rw[er];exact hlt)=x.regs[j]:=by simp [er]
   rw[eq] at e0 e1 e2;have hbr:br<wr.heap.size:=cell_lt e0
   have N1:=hide (show Snd (lkH x j)∧Good1 (lkH x j) x.regs[j]∧Formed x.regs[j] (lkH x j).cells.length by
    have hs:=(unhide SH j).s;refine⟨hs,?_,?_⟩
    ·have:=hs.good_reg j (by rw[er];exact hlt);rw[eq] at this;exact this
    ·have:=(hs.r4.1 j (by rw[er];exact hlt)).1;rw[eq] at this;exact this)
   have NX:=hide (lkH_succ x j hlt);have hj0:(0:Int)≤(j:Int):=by omega
   have hj1:(j:Int)<(x.regs.length:Int):=by omega
   have XA:=(Ext.refl wr).alloc (.cells #[iv x.regs[j].k,iv x.regs[j].n,iv x.regs[j].a] 152);have H2:=hide ((unhide hG).ext XA);have X2:=hide ((unhide hxr).trans XA);have s0:=XA.keep (unhide hm0);have BCW:=hide (show ∀j,j<x.cells.length→w.heap.size≠cB j from unhide NWC);clear er eq hG hxr hm0 XA;go_wp2_with fail;go_region_with (first | (have _:=LA;go_at_call 82;refine(wshade_any (unhide H3) x.regs[j] (unhide N1).2.1 (fun q hq=>(gray_fit (unhide N1).1.ok).2 q hq) a ha (unhide X3)).mono ?_;rintro e w4 ⟨rfl,h4,x4,fr⟩;rw[←unhide NX] at h4;have H4:=hide (unhide h4);have X4:=hide x4;have FR:=hide (show ∀q,q<w3.heap.size→q≠b→(∀j,j<x.cells.length→q≠cB j)→w4.heap[q]?=w3.heap[q]? from fun q h1 h2 h3=>unhide fr q h1 h2 (fun m h4=>h3 m (by rw[(unhide SH j).len] at h4;exact h4)));clear h4 x4 fr) | (go_at_call 123;refine(wfollow_any ((unhide H2).ext (Ext.refl _).drew) (unhide N1).1.r2 x.regs[j] (unhide N1).2.1 (unhide N1).2.2).mono ?_;rintro e w3 ⟨rfl,x3⟩;have LA:=True.intro;have x23:=Ext.trans (Ext.refl _).drew x3;have H3:=hide ((unhide H2).ext x23);have X3:=hide ((unhide X2).trans x23);have t0:=x23.keep s0;have ht1:w.heap.size<w3.heap.size:=cell_lt t0;clear x3 x23))
   all_goals
    have CL:=hide (show w4.cell? ⟨w.heap.size,0,none⟩=some (.pointer (some ⟨b,0,none⟩)) from(World.cell?_of_block (a:=⟨w.heap.size,0,none⟩) (unhide FR w.heap.size ht1 (by omega) (unhide BCW))).trans t0);go_wp2_with fail;go_roundw
    case rel=>exact⟨j+1,by omega,by go_num,unhide H4,unhide X4,unhide CL⟩
    case measure=>simp [intOf];omega
  ·have je:j=x.regs.length:=by omega
   subst je;rw[lkH_all] at hG;have g0:=unhide hm0
   have SL:=hide (show Snd (lookH x)∧(lookH x).phase=2 by
    have:=unhide SH x.regs.length;rw[lkH_all] at this;exact⟨this.s,this.phase.trans (unhide HP)⟩)
   have hs0:w.heap.size<wr.heap.size:=cell_lt g0;cases hgr:(lookH x).gray with
   | nil=>
    have EF:=hide (show unit2 x=toPh (lookH x) (2+1) 0 by rw[unhide EU,if_pos hgr];rfl);have RG:=hide (show RAt wr b bn hd [] by have:=(unhide hG).sb.rg;rw[hgr] at this;exact this);clear hgr;go_wp2_with fail;refine(rfirst_none b bn hd _ (unhide RG)).mono ?_;rintro e w3 ⟨rfl,x3⟩;have k0:=x3.keep g0;have H3:=hide ((unhide hG).ext x3);have X3:=hide ((unhide hxr).trans x3);clear x3 g0 hs0;go_wp2_with fail;refine(turn_low (unhide H3) 2 (unhide SL).2 rfl rfl (by omega) a ha (unhide X3)).mono ?_;rintro e w4 ⟨rfl,h4,x4⟩;go_wp2_with fail;go_ret;exact⟨by rw[unhide EF];rfl,by rw[unhide EF];exact unhide h4,x4⟩
   | cons g G=>
    have EF:=hide (show unit2 x=lookH x by rw[unhide EU,if_neg (by rw[hgr];simp)]);have EP:=hide (show(unit2 x).phase=2 by rw[unhide EF];exact(unhide SL).2);have RG:=hide (show RAt wr b bn hd (g::G) by have:=(unhide hG).sb.rg;rw[hgr] at this;exact this);clear hgr;go_wp2_with fail;refine(rfirst_some b bn hd g G _ (unhide RG)).mono ?_;rintro e w3 ⟨rfl,x3⟩;have k0:=x3.keep g0;have H3:=hide ((unhide hG).ext x3);have X3:=hide ((unhide hxr).trans x3);have hs3:w.heap.size<w3.heap.size:=cell_lt k0;clear x3 g0 hs0;go_wp2_with fail;go_ret;exact⟨by rw[unhide EP];rfl,by rw[unhide EF];exact unhide H3,unhide X3⟩
theorem sweep_end[Inhabited ProtD]{B:Nat}{w:World}{b:Nat}{x:Hp}{ar:Option Addr}{kr:Nat}{v4 v8:Value}{br bn:Nat}{cB cO:Nat→Nat}{pb:Nat→Nat}{pa:Nat→Option Addr}{pk:Nat→Nat}{kn hd:Nat}{vf:Value}{F:List Int}{vk:Value}{K:List Nat}{role:Nat→Nat}(h:SAt B w b x ar kr v4 v8 br cB cO bn pb pa pk kn hd vf F vk K role)(hp:x.phase=3)(he:x.hand=x.cells.length)(a:World)(ha:a.heap.size≤B)(hx:Ext a w):
  Calls Tryz.prog 331 #[.agg #[.pointer (some ⟨b,0,none⟩)]] w fun e w'=>e=.returned (nowV (unit3 x).phase b)∧Hid (SAt B w' b (unit3 x) ar kr v4 v8 br cB cO bn pb pa pk kn hd vf F vk K role)∧Ext a w':=by
 have E:=hide (show unit3 x=toPh x (3+1) 0 by unfold unit3;rw[if_pos he];rfl);have H:=hide h;have HP:=hide hp;have XA:=(Ext.refl w).alloc (.cells #[.pointer (some ⟨b,0,none⟩)] 235);have QA:=hide (atHand_none x.hand b x.cells.length kn (some ⟨bn,0,none⟩) _ (XA.keep h.sb.bx.2.2.2.2.2.2.1) (XA.keep h.sb.n13) (by simpa using he));have XA2:=hide XA;have hbw:b<w.heap.size:=h.sb.nb.1;clear h hp he XA;go_enter Tryz.func331,Tryz.ntmps331;go_wp2_with fail;refine(unhide QA).mono ?_;rintro e w1 ⟨rfl,x1⟩;have r0:w1.cell? ⟨w.heap.size,0,none⟩=some (.pointer (some ⟨b,0,none⟩)):=x1.keep (by simp [go_sem]);have X1:=hide ((unhide XA2).trans x1);go_wp2_with fail;refine(turn_low ((unhide H).ext (unhide X1)) 3 (unhide HP) rfl rfl (by omega) a ha (hx.trans (unhide X1))).mono ?_;rintro e w2 ⟨rfl,h2,x2⟩;go_wp2_with fail;go_ret;exact⟨by rw[unhide E];rfl,by rw[unhide E];exact unhide h2,x2⟩
theorem unit3_free{x:Hp}(s:Snd x)(i:Nat)(hi:x.hand=(i:Int))(hin:i<x.cells.length)(hs:(x.c i).st≠1):unit3 x={ x with hand:=(i:Int)+1 }:=by
 have ei:x.hand.toNat=i:=by omega
 have h0:whiteC (x.c i)=x.c i:=by
  have hc:(x.c i).color=0:=by
   rcases s.r2.1 i hin with⟨_,b,_⟩ | ⟨_,b⟩ | ⟨a,_⟩
   ·exact b.2.2.2.2.1
   ·exact b.1.2.2.2.2.1
   ·exact absurd a hs
  unfold whiteC;rw[←hc]
 have h1:x.cells.set i (x.c i)=x.cells:=by
  rw[←Hp.c_eq x i hin];simp
 unfold unit3;rw[if_neg (by omega),ei,if_neg (by simp [whB];intro e;exact absurd e hs),h0,h1,hi]
theorem sweep_free[Inhabited ProtD]{B:Nat}{w:World}{b:Nat}{x:Hp}{ar:Option Addr}{kr:Nat}{v4 v8:Value}{br bn:Nat}{cB cO:Nat→Nat}{pb:Nat→Nat}{pa:Nat→Option Addr}{pk:Nat→Nat}{kn hd:Nat}{vf:Value}{F:List Int}{vk:Value}{K:List Nat}{role:Nat→Nat}(h:SAt B w b x ar kr v4 v8 br cB cO bn pb pa pk kn hd vf F vk K role)(s:Snd x)(hp:x.phase=3)(i:Nat)(hi:x.hand=(i:Int))(hin:i<x.cells.length)(hs:((x.c i).st == 1)=false)(a:World)(ha:a.heap.size≤B)(hx:Ext a w):
  Calls Tryz.prog 331 #[.agg #[.pointer (some ⟨b,0,none⟩)]] w fun e w'=>e=.returned (nowV (unit3 x).phase b)∧Hid (SAt B w' b (unit3 x) ar kr v4 v8 br cB cO bn pb pa pk kn hd vf F vk K role)∧Ext a w':=by
 have E:=hide (unit3_free s i hi hin (by simpa using hs));have EP:=hide (show(unit3 x).phase=3 by rw[unhide E];exact hp);have H:=hide h;have n8:=s.ok.n8;have XA:=(Ext.refl w).alloc (.cells #[.pointer (some ⟨b,0,none⟩)] 235);have c6:=h.sb.bx.2.2.2.2.2.2.1;rw[hi] at c6;have QA:=hide (atHand_some b x.cells.length kn bn i _ (XA.keep c6) (XA.keep h.sb.n13) hin);have XA2:=hide XA;have hbw:b<w.heap.size:=h.sb.nb.1;have lo:=h.sb.lo.1;have HI:=hide hi;have WH:=hide (show whB (x.c i)=false by simp [whB,hs]);clear h hp XA s hi c6;go_enter Tryz.func331,Tryz.ntmps331;go_wp2_with fail;refine(unhide QA).mono ?_;rintro e w1 ⟨rfl,x1⟩;have r0:w1.cell? ⟨w.heap.size,0,none⟩=some (.pointer (some ⟨b,0,none⟩)):=x1.keep (by simp [go_sem]);have X1:=hide ((unhide XA2).trans x1);have H1:=hide ((unhide H).ext (unhide X1));have m1:=((unhide H1).sb.nd i hin).2;have p0:=((unhide H1).rw.s i hin).1;have QS:=hide (swhite_any (x.c i) bn i (cB i) (cO i) w1 m1 ((unhide H1).rw.s i hin));rw[unhide WH] at QS;clear x1 XA2 QA;go_wp2_with fail;refine(unhide QS).mono ?_;rintro e w2 ⟨rfl,hw2⟩;subst hw2;have c6:w2.cell? ⟨b,6,none⟩=some (iv i):=by have:=(unhide H1).sb.bx.2.2.2.2.2.2.1;rw[unhide HI] at this;exact this
 have f6:=(unhide H1).sb.nb.2 6;have hb1:b<w2.heap.size:=cell_lt c6;have hb2:w.heap.size<w2.heap.size:=cell_lt r0;have FN:=hide ((unhide H1).hand ((i:Int)+1));have XN:=hide ((hx.trans (unhide X1)).setCell (p:=⟨b,6,none⟩) (show a.heap.size≤b by omega) (iv ((i:Int)+1)));go_wp2_with fail;go_ret;exact⟨by rw[unhide EP];rfl,by rw[unhide E];exact unhide FN,unhide XN⟩
structure Ak where
 op:Int
 a:Int
 b:Int
 c:Int
 n:Int
abbrev Ak.v(x:Ak):Value:=.agg #[iv x.op,iv x.a,iv x.b,iv x.c,iv x.n]
def AkAt(w:World)(b o:Nat)(x:Ak):Prop:=w.cell? ⟨b,o,none⟩=some (iv x.op)∧w.cell? ⟨b,o+1,none⟩=some (iv x.a)∧w.cell? ⟨b,o+2,none⟩=some (iv x.b)∧w.cell? ⟨b,o+3,none⟩=some (iv x.c)∧w.cell? ⟨b,o+4,none⟩=some (iv x.n)
abbrev SlA(w:World)(v:Value)(xs:List Ak):Prop:=SlOf (AkAt w) 5 v xs
theorem AkAt.ext{w w':World}(h:Ext w w'){b o:Nat}{x:Ak}(hx:AkAt w b o x):AkAt w' b o x:=⟨h.keep hx.1,h.keep hx.2.1,h.keep hx.2.2.1,h.keep hx.2.2.2.1,h.keep hx.2.2.2.2⟩
theorem SlA.ext{w w':World}(h:Ext w w'){v:Value}{xs:List Ak}(hx:SlA w v xs):SlA w' v xs:=hx.mono fun _ _ _ k=>k.ext h
theorem slA_form{w:World}{v:Value}{xs:List Ak}(h:SlA w v xs):∃ad cap,v=.slice ad xs.length cap:=let ⟨a,c,e,_⟩:=h;⟨a,c,e⟩
abbrev Ak.l(x:Ak):List Value:=[iv x.op,iv x.a,iv x.b,iv x.c,iv x.n]
theorem mark_look[Inhabited ProtD]{B:Nat}{w:World}{b:Nat}{x:Hp}{ar:Option Addr}{kr:Nat}{v4 v8:Value}{br bn:Nat}{cB cO:Nat→Nat}{pb:Nat→Nat}{pa:Nat→Option Addr}{pk:Nat→Nat}{kn hd:Nat}{vf:Value}{F:List Int}{vk:Value}{K:List Nat}{role:Nat→Nat}(h:SAt B w b x ar kr v4 v8 br cB cO bn pb pa pk kn hd vf F vk K role)(s:Snd x)(hp:x.phase=2)(hg:x.gray=[])(a:World)(ha:a.heap.size≤B)(hx:Ext a w):
  Calls Tryz.prog 329 #[.agg #[.pointer (some ⟨b,0,none⟩)]] w fun e w'=>e=.returned (nowV (unit2 x).phase b)∧Hid (SAt B w' b (unit2 x) ar kr v4 v8 br cB cO bn pb pa pk kn hd vf F vk K role)∧Ext a w':=by
 have H:=hide h;have XA:=(Ext.refl w).alloc (.cells #[.pointer (some ⟨b,0,none⟩)] 234);have RG:=hide (show RAt w b bn hd [] by have:=h.sb.rg;rw[hg] at this;exact this);have QA:=hide (rfirst_none b bn hd _ ((unhide RG).block (XA.block b h.sb.nb.1)));have QL:=hide (fun W (e:Ext w W)=>look_any (h.ext e) s hp hg a ha (hx.trans e));have XA2:=hide XA;have hbw:b<w.heap.size:=h.sb.nb.1;clear h hp hg XA s;go_enter Tryz.func329,Tryz.ntmps329;go_wp2_with fail;refine(unhide QA).mono ?_;rintro e w1 ⟨rfl,x1⟩;have r0:w1.cell? ⟨w.heap.size,0,none⟩=some (.pointer (some ⟨b,0,none⟩)):=x1.keep (by simp [go_sem]);have X1:=hide ((unhide XA2).trans x1);go_wp2_with fail;refine(unhide QL _ (unhide X1)).mono ?_;rintro e w2 ⟨rfl,h2,x2⟩;go_wp2_with fail;go_ret;exact⟨rfl,unhide h2,x2⟩
def bnd(R:Nat)(p:Int):Nat:=if p=1 then 12*R+5 else if p=2 then 9*R+4 else if p=3 then 7*R+3 else if p=4 then 5*R+2 else if p=5 then 2*R+1 else 0
def phi(x:Hp):Nat:=if x.phase=0 then 0 else bnd x.room.toNat x.phase+part x+1
theorem sm_mono{F G:Cl→Nat}:∀(cs:List Cl),(∀c,c∈cs→F c≤G c)→sm F cs≤sm G cs
 | [],_=>by simp [sm]
 | c::cs,h=>by
  have h1:=sm_mono cs (fun d hd=>h d (by simp [hd]));have h2:=h c (by simp);simp only [sm,List.map_cons,List.sum_cons] at h1 ⊢;omega
theorem sm_three:∀(cs:List Cl),sm (fun c=>3*unitsOf c) cs=3*units cs
 | []=>by simp [sm,units]
 | c::cs=>by have:=sm_three cs;simp only [sm,units,List.map_cons,List.sum_cons] at this ⊢;omega
theorem sm_one:∀(cs:List Cl),sm (fun c=>unitsOf c+1) cs=units cs+cs.length
 | []=>by simp [sm,units]
 | c::cs=>by have:=sm_one cs;simp only [sm,units,List.map_cons,List.sum_cons,List.length_cons] at this ⊢;omega
theorem sm_dropl(F:Cl→Nat):∀(cs:List Cl) (k:Nat),sm F (cs.drop k)≤sm F cs
 | [],_=>by simp
 | _::_,0=>by simp
 | c::cs,k+1=>by have:=sm_dropl F cs k;simp only [List.drop_succ_cons,sm,List.map_cons,List.sum_cons] at this ⊢;omega
theorem d5_le{x:Hp}(s:Snd x)(c:Cl)(hc:c∈x.cells):D5 c≤unitsOf c+1:=by
 obtain⟨i,hi,e⟩:=List.getElem_of_mem hc;have e2:x.c i=c:=by rw[←Hp.c_eq x i hi];exact e
 have h:=s.r2.1 i hi;unfold CellOk at h;rw[e2] at h;unfold D5 unitsOf;rcases h with h | h | h
 ·have:=h.2.1.2.2.2.2.2;split <;> omega
 ·have:=h.2.1.2.2.2.2.2;split <;> omega
 ·rw[if_pos h.1];omega
def pbd(R:Nat)(p:Int):Nat:=if p=2∨p=5 then 3*R else 2*R
theorem Snd.part_le{x:Hp}(s:Snd x):part x≤pbd x.room.toNat x.phase:=by
 have r:=s.r1.room;have hc:=s.r1.cells;have hh:=s.r1.hand;have u:=s.r3;unfold R3 at u;unfold part pbd
 split
 ·rename_i e;rw[if_pos (.inl e)];have a:=sm_mono x.cells (F:=D2) (G:=fun c=>3*unitsOf c) (fun c _=>by unfold D2 unitsOf;grind);rw[sm_three] at a;omega
 split
 ·rename_i e2 e;rw[if_neg (by omega)];have a:=sm_le D4 1 x.cells (fun c _=>by unfold D4;split <;> omega);omega
 split
 ·rename_i e2 e4 e;rw[if_pos (.inr e)];have a:=sm_mono x.cells (F:=D5) (G:=fun c=>unitsOf c+1) (d5_le s);rw[sm_one] at a;have b:=sm_dropl D5 x.cells x.hand.toNat;omega
 split
 ·rw[if_neg (by omega)];omega
 ·rw[if_neg (by omega)];omega
theorem Snd.phi_le{x:Hp}(s:Snd x):phi x≤14*x.room.toNat+6:=by
 have a:=s.part_le;have r:=s.r1.phase;unfold phi
 split
 ·omega
 have:x.phase=1∨x.phase=2∨x.phase=3∨x.phase=4∨x.phase=5∨x.phase=6:=by omega
 rcases this with e | e | e | e | e | e <;> simp only [bnd,pbd,e] at a ⊢ <;> simp at a ⊢ <;> omega
theorem Snd.phi_less{x:Hp}(s:Snd x)(h0:x.phase≠0):phi (unitH x)<phi x:=by
 have l:=s.less h0;have t:=s.unit;have rm:(unitH x).room=x.room:=(rst_unit x).2.1;have py:=t.r1.phase;have px:=s.r1.phase;have by_:=t.pbound;have bx:=s.pbound;have a:=t.part_le;rw[rm] at a;unfold phi;rw[if_neg h0,rm]
 split
 ·omega
 rename_i n0;unfold mu at l;rw[if_neg n0,if_neg h0] at l;by_cases e:(unitH x).phase=x.phase
 ·rw[e] at l ⊢;omega
 ·have lt:x.phase<(unitH x).phase:=by omega
  have hx:x.phase=1∨x.phase=2∨x.phase=3∨x.phase=4∨x.phase=5:=by omega
  have hy:(unitH x).phase=2∨(unitH x).phase=3∨(unitH x).phase=4∨(unitH x).phase=5∨(unitH x).phase=6:=by omega
  rcases hx with e1 | e1 | e1 | e1 | e1 <;> rcases hy with e2 | e2 | e2 | e2 | e2 <;> first | (exfalso;omega) | (simp only [bnd,pbd,e1,e2] at a ⊢;simp at a ⊢;omega)
theorem Runs.phi{x:Hp}(s:Snd x):∀k,Runs x k→phi (itU k x)+k≤phi x
 | 0,_=>by simp [Go.Proofs.YtddkhnclmeikfaaGreat.itU]
 | k+1,h=>by
  have h1:=Runs.phi s k (fun j hj=>h j (by omega));have h2:=(s.itU k).phi_less (h k (by omega));simp only [Go.Proofs.YtddkhnclmeikfaaGreat.itU];omega
structure LoAt(w:World)(b r bs bh:Nat)(x:Hp)(ac:Nat→Option Addr)(bn kn:Nat)(Mt:List Nat):Prop where
 s:w.cell? ⟨bs,0,none⟩=some (.pointer (some ⟨b,0,none⟩))
 h:w.cell? ⟨bh,0,none⟩=some (.map (some r))
 f:FwAt w b x ac (some ⟨bn,0,none⟩) kn
 m:MapAt w r bn (Mt.map (fun i=>i*2))
 rl:r<w.heap.size
theorem LoAt.ext{w w':World}{b r bs bh:Nat}{x:Hp}{ac:Nat→Option Addr}{bn kn:Nat}{Mt:List Nat}(h:LoAt w b r bs bh x ac bn kn Mt)(e:Ext w w'):LoAt w' b r bs bh x ac bn kn Mt:=
 ⟨e.keep h.s,e.keep h.h,h.f.ext e,h.m.block (e.block r h.rl),Nat.lt_of_lt_of_le h.rl e.size⟩
structure GoAt(w:World)(b r bs bh bx bl:Nat)(x:Hp)(ac:Nat→Option Addr)(bn kn:Nat)(Mt:List Nat)(i:Nat):Prop where
 lo:LoAt w b r bs bh x ac bn kn Mt
 n:w.cell? ⟨bx,0,none⟩=some (ndp bn i)
 l:w.cell? ⟨bl,0,none⟩=some (.func (.func 214) #[] #[.pointer (some ⟨bs,0,none⟩),.pointer (some ⟨bh,0,none⟩)])
 c:∃bc oc,ac i=some ⟨bc,oc,none⟩∧w.cell? ⟨bn,i*2+1,none⟩=some (.pointer (some ⟨bc,oc,none⟩))∧w.cell? ⟨bc,oc+2,none⟩=some (iv (x.c i).weak)
theorem GoAt.ext{w w':World}{b r bs bh bx bl:Nat}{x:Hp}{ac:Nat→Option Addr}{bn kn:Nat}{Mt:List Nat}{i:Nat}(h:GoAt w b r bs bh bx bl x ac bn kn Mt i)(e:Ext w w'):GoAt w' b r bs bh bx bl x ac bn kn Mt i:=
 ⟨h.lo.ext e,e.keep h.n,e.keep h.l,let ⟨bc,oc,a,p,q⟩:=h.c;⟨bc,oc,a,e.keep p,e.keep q⟩⟩
theorem zeroStore:Tryz.zeroCells132.size=4018∧Tryz.zeroCells132[4015]?=some (iv 0)∧Tryz.zeroCells132[4016]?=some (iv 0)∧Tryz.zeroCells132[4017]?=some (.slice none 0 0):=⟨by kernel_rfl,by kernel_rfl,by kernel_rfl,by kernel_rfl⟩
abbrev stZ(cs:Array Value)(v0 v1 v2 v3 v4 v5 v6 v7 v8 v9 v10 v11 v12 v13 v14:Value):Array Value:=(((((((((((((((cs.setIfInBounds 0 v0).setIfInBounds 1 v1).setIfInBounds 2 v2).setIfInBounds 3 v3).setIfInBounds 4 v4).setIfInBounds 5 v5).setIfInBounds 6 v6).setIfInBounds 7 v7).setIfInBounds 8 v8).setIfInBounds 9 v9).setIfInBounds 10 v10).setIfInBounds 11 v11).setIfInBounds 12 v12).setIfInBounds 13 v13).setIfInBounds 14 v14)
theorem stZ_at(cs:Array Value)(v0 v1 v2 v3 v4 v5 v6 v7 v8 v9 v10 v11 v12 v13 v14:Value)(s0:cs.size=4018)(s1:cs[4015]?=some (iv 0))(s2:cs[4016]?=some (iv 0))(s3:cs[4017]?=some (.slice none 0 0)):(stZ cs v0 v1 v2 v3 v4 v5 v6 v7 v8 v9 v10 v11 v12 v13 v14).size=4018∧
   ((stZ cs v0 v1 v2 v3 v4 v5 v6 v7 v8 v9 v10 v11 v12 v13 v14)[0]?=some v0∧(stZ cs v0 v1 v2 v3 v4 v5 v6 v7 v8 v9 v10 v11 v12 v13 v14)[1]?=some v1∧(stZ cs v0 v1 v2 v3 v4 v5 v6 v7 v8 v9 v10 v11 v12 v13 v14)[2]?=some v2∧(stZ cs v0 v1 v2 v3 v4 v5 v6 v7 v8 v9 v10 v11 v12 v13 v14)[3]?=some v3∧(stZ cs v0 v1 v2 v3 v4 v5 v6 v7 v8 v9 v10 v11 v12 v13 v14)[4]?=some v4∧(stZ cs v0 v1 v2 v3 v4 v5 v6 v7 v8 v9 v10 v11 v12 v13 v14)[5]?=some v5∧(stZ cs v0 v1 v2 v3 v4 v5 v6 v7 v8 v9 v10 v11 v12 v13 v14)[6]?=some v6∧(stZ cs v0 v1 v2 v3 v4 v5 v6 v7 v8 v9 v10 v11 v12 v13 v14)[7]?=some v7∧(stZ cs v0 v1 v2 v3 v4 v5 v6 v7 v8 v9 v10 v11 v12 v13 v14)[8]?=some v8∧(stZ cs v0 v1 v2 v3 v4 v5 v6 v7 v8 v9 v10 v11 v12 v13 v14)[9]?=some v9∧(stZ cs v0 v1 v2 v3 v4 v5 v6 v7 v8 v9 v10 v11 v12 v13 v14)[10]?=some v10∧(stZ cs v0 v1 v2 v3 v4 v5 v6 v7 v8 v9 v10 v11 v12 v13 v14)[11]?=some v11∧(stZ cs v0 v1 v2 v3 v4 v5 v6 v7 v8 v9 v10 v11 v12 v13 v14)[12]?=some v12∧(stZ cs v0 v1 v2 v3 v4 v5 v6 v7 v8 v9 v10 v11 v12 v13 v14)[13]?=some v13∧(stZ cs v0 v1 v2 v3 v4 v5 v6 v7 v8 v9 v10 v11 v12 v13 v14)[14]?=some v14)∧
   (stZ cs v0 v1 v2 v3 v4 v5 v6 v7 v8 v9 v10 v11 v12 v13 v14)[4015]?=some (iv 0)∧(stZ cs v0 v1 v2 v3 v4 v5 v6 v7 v8 v9 v10 v11 v12 v13 v14)[4016]?=some (iv 0)∧(stZ cs v0 v1 v2 v3 v4 v5 v6 v7 v8 v9 v10 v11 v12 v13 v14)[4017]?=some (.slice none 0 0):=by
 unfold stZ;exact⟨by simp [s0],by simp [s0],by simp [s1],by simp [s2],by simp [s3]⟩
abbrev ansV(c n:Int):Value:=.agg #[iv c,iv n]
theorem l5fine_any(n:Int)(w:World):Calls Tryz.prog 161 #[.int .i64 n] w fun e w'=>e=.returned (ansV 0 n)∧Ext w w':=by
 go_enter Tryz.func161,Tryz.ntmps161;go_wp2_with fail
 first
  | (go_ret;exact⟨rfl,by repeat (first | exact Ext.refl _ | refine Ext.alloc ?_ _)⟩)
  | exact bodyPost_ret (v:=ansV 0 n) (by simp [results,Tryz.results161,go_sem]) rfl ⟨rfl,by repeat (first | exact Ext.refl _ | refine Ext.alloc ?_ _)⟩
def markingB(x:Hp):Bool:=(x.phase == 1) || (x.phase == 2)
theorem marking_any(x:Hp)(b:Nat)(w:World)(c5:w.cell? ⟨b,5,none⟩=some (iv x.phase)):
  Calls Tryz.prog 145 #[.pointer (some ⟨b,0,none⟩)] w fun e w'=>e=.returned (.bool (markingB x))∧w'=w:=by
 cases t:(x.phase == 1)
 all_goals
  go_enter Tryz.func145,Tryz.ntmps145
  go_wp2
  go_ret;exact⟨by simp [markingB,t],rfl⟩
theorem marking_is(x:Hp)(b:Nat)(s:Bool)(hs:markingB x=s)(w:World)(c5:w.cell? ⟨b,5,none⟩=some (iv x.phase)):
  Calls Tryz.prog 145 #[.pointer (some ⟨b,0,none⟩)] w fun e w'=>e=.returned (.bool s)∧w'=w:=by
 rw[←hs];exact marking_any x b w c5
def mayBlackB(x:Hp)(i:Nat):Bool:=markingB x || ((x.phase == 3) && decide (x.hand≤(i:Int)))
theorem mayBeBlack_any(x:Hp)(b bn q i:Nat)(w:World)(c5:w.cell? ⟨b,5,none⟩=some (iv x.phase))(c6:w.cell? ⟨b,6,none⟩=some (iv x.hand))(m0:w.cell? ⟨bn,q,none⟩=some (iv i)):
  Calls Tryz.prog 180 #[.pointer (some ⟨b,0,none⟩),.pointer (some ⟨bn,q,none⟩)] w fun e w'=>e=.returned (.bool (mayBlackB x i))∧Ext w w':=by
 have HM:=hide (fun n s (hs:markingB x=s)=>marking_is x b s hs (w.drewN n) (((Ext.refl w).drewN n).keep c5));cases t1:markingB x
 ·cases t2:(x.phase == 3)
  ·have E:=hide (show mayBlackB x i=false by simp [mayBlackB,t1,t2]);go_enter Tryz.func180,Tryz.ntmps180;go_wp2_with fail;go_quiet ((go_at_call 145;exact Calls.quiet_of_same (unhide HM _ _ t1)));go_wp2_with fail;go_ret;exact⟨by rw[unhide E];rfl,(Ext.refl w).drewN _⟩
  ·by_cases t3:x.hand≤(i:Int)
   ·have E:=hide (show mayBlackB x i=true by simp [mayBlackB,t2,t3]);go_enter Tryz.func180,Tryz.ntmps180;go_wp2_with fail;go_quiet ((go_at_call 145;exact Calls.quiet_of_same (unhide HM _ _ t1)));go_wp2_with fail;go_ret;exact⟨by rw[unhide E];rfl,(Ext.refl w).drewN _⟩
   ·have E:=hide (show mayBlackB x i=false by simp [mayBlackB,t1];omega);have t3b:decide (x.hand≤(i:Int))=false:=decide_eq_false t3;clear t3;go_enter Tryz.func180,Tryz.ntmps180;go_wp2_with fail;go_quiet ((go_at_call 145;exact Calls.quiet_of_same (unhide HM _ _ t1)));go_wp2_with fail;go_ret;exact⟨by rw[unhide E];rfl,(Ext.refl w).drewN _⟩
 ·have E:=hide (show mayBlackB x i=true by simp [mayBlackB,t1]);go_enter Tryz.func180,Tryz.ntmps180;go_wp2_with fail;go_quiet ((go_at_call 145;exact Calls.quiet_of_same (unhide HM _ _ t1)));go_wp2_with fail;go_ret;exact⟨by rw[unhide E];rfl,(Ext.refl w).drewN _⟩
theorem filter_at{α:Type}(f:α→Bool)(d:α):∀(l:List α) (k:Nat),k<(l.filter f).length→∃j,j<l.length∧(l.filter f).getD k d=l.getD j d∧∀s,(k<((l.take s).filter f).length↔j<s)
 | [],k,h=>by simp at h
 | a::l,k,h=>by
  cases fa:f a
  ·rw[List.filter_cons_of_neg (by simp [fa])] at h ⊢;obtain⟨j,h1,h2,h3⟩:=filter_at f d l k h;refine⟨j+1,by simp;omega,by rw[h2];rfl,fun s=>?_⟩;cases s with
   | zero=>simp
   | succ s=>
    rw[List.take_succ_cons,List.filter_cons_of_neg (by simp [fa]),h3 s];omega
  ·rw[List.filter_cons_of_pos fa] at h ⊢;cases k with
   | zero=>
    refine⟨0,by simp,rfl,fun s=>?_⟩;cases s with
    | zero=>simp
    | succ s=>rw[List.take_succ_cons,List.filter_cons_of_pos fa];simp
   | succ k=>
    obtain⟨j,h1,h2,h3⟩:=filter_at f d l k (by simp at h;exact h);refine⟨j+1,by simp;omega,by exact h2,fun s=>?_⟩;cases s with
    | zero=>simp
    | succ s=>
     rw[List.take_succ_cons,List.filter_cons_of_pos fa,List.length_cons];have:=h3 s;omega
end Go.Proofs.YtddkhnclmeikfaaGreat
