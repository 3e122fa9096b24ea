import Derived.Test.YtddkhnclmeikfaaGreatGs1
import Derived.Test.YtddkhnclmeikfaaGreatQa
import Derived.Test.YtddkhnclmeikfaaGreatRc5
set_option maxRecDepth 100000
set_option maxHeartbeats 1000000
namespace Go.Proofs.YtddkhnclmeikfaaGreat
open Go.RowKit
attribute [local go_sem ↓] Go.wp_at_zero Go.wp_at_succ
theorem word_fn[Inhabited ProtD]{B:Nat}{w:World}{b:Nat}{x:Hp}{ar:Option Addr}{kr:Nat}{v4 v8:Value}{br bn:Nat}{cB cO:Nat→Nat}{pb:Nat→Nat}{pa:Nat→Option Addr}{pk:Nat→Nat}{kn hd:Nat}{vf:Value}{F:List Int}{vk:Value}{K:List Nat}{role:Nat→Nat}(h:SAt B w b x ar kr v4 v8 br cB cO bn pb pa pk kn hd vf F vk K role)(j:Nat)(hj:j<x.regs.length)(y:Wd)(hr:0<x.regs.length)(a:World)(hx:Ext a w)(hb:a.heap.size≤br):
  ∀W,Ext w W→SAt B (wordO W br (j*3) y) b { x with regs:=x.regs.set j y } ar kr v4 v8 br cB cO bn pb pa pk kn hd vf F vk K role∧Ext a (wordO W br (j*3) y)∧(∀d o v,d≠br→w.cell? ⟨d,o,none⟩=some v→(wordO W br (j*3) y).cell? ⟨d,o,none⟩=some v)∧∀q,q<w.heap.size→q≠br→(wordO W br (j*3) y).heap[q]?=w.heap[q]?:=fun W xW=>by
 have g1:=h.ext xW;have ow:=wordO_only W br (j*3) y;refine⟨g1.setr j hj y ow (wordO_nf (g1.rw.nr hr).1 _ _) (wordO_at W br (j*3) y _ (g1.rw.r j hj)) (fun m hm=>wordO_other W br (j*3) y m hm),ow.ext (hx.trans xW) (fun q hq e=>by omega),fun d o v hd hv=>?_,fun q h1 h2=>?_⟩
 ·exact(World.cell?_of_block (a:=⟨d,o,none⟩) (ow.block d (Nat.lt_of_lt_of_le (cell_lt hv) xW.size) hd)).trans (xW.keep hv)
 ·exact(ow.block q (Nat.lt_of_lt_of_le h1 xW.size) h2).trans (xW.block q h1)
theorem carry_any[Inhabited ProtD]{B:Nat}{w:World}{b:Nat}{x:Hp}{ar:Option Addr}{kr:Nat}{v4 v8:Value}{br bn:Nat}{cB cO:Nat→Nat}{pb:Nat→Nat}{pa:Nat→Option Addr}{pk:Nat→Nat}{kn hd:Nat}{vf:Value}{F:List Int}{vk:Value}{K:List Nat}{role:Nat→Nat}(h:SAt B w b x ar kr v4 v8 br cB cO bn pb pa pk kn hd vf F vk K role)(s:Snd x)(t f:Nat)(htf:t≠f)(ht:t<x.cells.length)(hf:f<x.cells.length)(a:World)(ha:a.heap.size≤B)(hx:Ext a w):
  Calls Tryz.prog 334 #[.agg #[.pointer (some ⟨b,0,none⟩)],ndp bn f,ndp bn t] w fun e w'=>e=.returned (.tuple #[])∧Hid (∃pb' pa' pk' role',SAt B w' b (moveH x t f) ar kr v4 v8 br cB cO bn pb' pa' pk' kn hd vf F vk K role'∧∀q,q<w.heap.size→q≠br→(∀j,j<x.cells.length→q≠cB j)→w'.heap[q]?=w.heap[q]?)∧Ext a w':=by
 have H:=hide h;have S:=hide s;have XA:=(Ext.refl w).alloc (.cells #[.pointer (some ⟨b,0,none⟩)] 236);have r0:0<x.regs.length:=by have:=s.r1.regs;omega
 have r16:x.regs.length≤16:=by have:=s.r1.regs;omega
 have n8:=s.ok.n8;have c3:=h.sb.bx.2.2.2.1;rw[h.sb.ha r0] at c3;have hbw:b<w.heap.size:=h.sb.nb.1;have lo:=h.sb.lo.1;have HS:=hide (h.ext XA);have XS:=hide (hx.trans XA);have d3:=XA.keep c3;have M0:=hide (show(w.alloc (.cells #[.pointer (some ⟨b,0,none⟩)] 236)).cell? ⟨w.heap.size,0,none⟩=some (.pointer (some ⟨b,0,none⟩)) by simp [go_sem]);have BRW:=hide (show br<w.heap.size∧B≤br from⟨(h.rw.nr r0).1.1,(h.rw.nr r0).2⟩);clear h s c3 XA;go_enter Tryz.func334,Tryz.ntmps334;go_wp2_with fail;go_loopw [16] (fun i wr=>∃j:Nat,j≤x.regs.length∧i=.int .i64 j∧Hid (SAt B wr b (rgR x t f j) ar kr v4 v8 br cB cO bn pb pa pk kn hd vf F vk K role)∧Hid (Ext a wr∧wr.cell? ⟨w.heap.size,0,none⟩=some (.pointer (some ⟨b,0,none⟩))∧∀q,q<w.heap.size→q≠br→wr.heap[q]?=w.heap[q]?)) (fun i _=>x.regs.length-(intOf i).toNat)
 case atStart=>exact⟨0,Nat.zero_le _,rfl,by rw[rgR_zero];exact unhide HS,unhide XS,unhide M0,fun q hq _=>Below.heap_alloc w _ q hq⟩
 case round=>
  clear HS XS d3 M0;obtain⟨j,hj,rfl,hG,hxr⟩:=hrel;by_cases hlt:j<x.regs.length
  ·obtain⟨hl,er⟩:=rgR_at x t f j hlt;obtain⟨e0,e1,e2⟩:=(unhide hG).rw.r j hl;rw[er] at e0 e1 e2;have hbr:br<wr.heap.size:=cell_lt e0;have FM:=hide ((unhide S).r4.1 j hlt).1;have hj0:(0:Int)≤(j:Int):=by omega
   have hj1:(j:Int)<(x.regs.length:Int):=by omega
   have m0:=(unhide hxr).2.1;have hs0:w.heap.size<wr.heap.size:=cell_lt m0;have SU:=hide (rgR_succ x t f j hlt);have SS:=hide (rgR_same x t f j hlt);obtain⟨⟨yk,yn,ya⟩,hr⟩:∃r,r=x.regs[j]:=⟨_,rfl⟩;rw[←hr] at e0 e1 e2 FM SU SS;clear hr er;simp only at e0 e1 e2;have XB:=(Ext.refl wr).alloc (.cells #[iv yk,iv yn,iv ya] 152);have d0:=XB.keep m0;have c13:=XB.keep (unhide hG).sb.n13;have XB2:=hide XB;clear XB;cases q:(yk == 2)
   ·have qn:¬yk=2:=by simpa using q
    have en:∀W,(binOp .eql 126 (.pointer none) (ndp bn f)).run Tryz.prog W=.ok (.bool false) W:=fun W=>ptr_nil bn (f*2) W
    have NX:=hide (show rgR x t f (j+1)=rgR x t f j from unhide SS (by unfold mvW;rw[if_neg (fun h=>qn h.1)]));go_wp2_with fail;go_region_with (go_at_call 199;refine(find_none ⟨yk,yn,ya⟩ b _ q).mono ?_;rintro e w3 ⟨rfl,x3⟩;have X3:=hide (Ext.trans (unhide XB2) (Ext.trans (Ext.refl _).drew x3));clear x3)
    all_goals
     have R:=hide (show SAt B w3 b (rgR x t f (j+1)) ar kr v4 v8 br cB cO bn pb pa pk kn hd vf F vk K role by rw[unhide NX];exact(unhide hG).ext (unhide X3));have RX:=hide (show Ext a w3∧w3.cell? ⟨w.heap.size,0,none⟩=some (.pointer (some ⟨b,0,none⟩))∧∀q,q<w.heap.size→q≠br→w3.heap[q]?=w.heap[q]? from⟨(unhide hxr).1.trans (unhide X3),(unhide X3).keep (unhide hxr).2.1,fun q h1 h2=>((unhide X3).block q (by omega)).trans ((unhide hxr).2.2 q h1 h2)⟩);go_wp2_with fail;go_roundw
     case rel=>exact⟨j+1,by omega,by go_num,unhide R,unhide RX⟩
     case measure=>simp [intOf];omega
   ·obtain rfl:yk=2:=by simpa using q
    have fm:yn=0∧0≤ya∧ya<x.cells.length:=by have:=unhide FM;unfold Formed at this;simp only at this;omega
    obtain⟨i,rfl⟩:∃i:Nat,ya=(i:Int):=⟨ya.toNat,by omega⟩;obtain rfl:yn=0:=fm.1;have hi:i<x.cells.length:=by omega
    by_cases hif:i=f
    ·subst hif;have en:∀W,(binOp .eql 126 (.pointer (some ⟨bn,i*2,none⟩)) (ndp bn i)).run Tryz.prog W=.ok (.bool true) W:=fun W=>ptr_yes bn (i*2) W
     have NX:=hide (show({ rgR x t i j with regs:=(rgR x t i j).regs.set j ⟨2,0,t⟩ }:Hp)=rgR x t i (j+1) by have:=unhide SU;unfold mvW at this;rw[if_pos ⟨rfl,rfl⟩] at this;exact this);go_wp2_with fail;go_region_with (go_at_call 199;refine(find_some ⟨2,0,(i:Int)⟩ b x.cells.length bn 0 kn i _ rfl ((Ext.refl _).drew.keep c13) hi).mono ?_;rintro e w3 ⟨rfl,x3⟩;rw[Nat.zero_add];have X3:=hide (Ext.trans (unhide XB2) (Ext.trans (Ext.refl _).drew x3));clear x3)
     all_goals
      have R3:=hide ((unhide hG).ext (unhide X3));have k0:=(unhide X3).keep m0
      have k3:w3.cell? ⟨b,3,none⟩=some (.slice (some ⟨br,0,none⟩) x.regs.length kr):=by
       have h3:=(unhide R3).sb.bx.2.2.2.1;have hrl:(rgR x t i j).regs.length=x.regs.length:=by simp [rgR];omega
       rw[(unhide R3).sb.ha (by omega),hrl] at h3;exact h3
      have g0:=(unhide X3).keep e0;have g1:=(unhide X3).keep e1;have g2:=(unhide X3).keep e2;have hrl:0<(rgR x t i j).regs.length:=by simp [rgR];omega
      have gf:=((unhide R3).rw.nr hrl).1.2;have hbr3:br<w3.heap.size:=cell_lt g0;have hb3:b<w3.heap.size:=cell_lt k3;have hs3:w.heap.size<w3.heap.size:=cell_lt k0;have T0:=hide ((unhide R3).sb.nd t ht).1;have FN:=hide (word_fn (unhide R3) j hl ⟨2,0,t⟩ hrl a ((unhide hxr).1.trans (unhide X3)) (by have:=(unhide BRW).2;omega));rw[unhide NX] at FN;unfold wordO at FN;dsimp only at FN;have FQ:=hide (show ∀q,q<w3.heap.size→q≠br→q<w.heap.size→w3.heap[q]?=w.heap[q]? from fun q h0 h2 h1=>((unhide X3).block q (by omega)).trans ((unhide hxr).2.2 q h1 h2));clear e0 e1 e2 m0 d0 c13 hrl;go_wp2_with fail;go_region_with (go_at_call 319;refine(sword_any bn (t*2) t _ ((Ext.refl _).drew.keep (unhide T0))).mono ?_;rintro e w4 ⟨rfl,x4⟩;have x34:=Ext.trans (Ext.refl w3).drew x4;have l0:=x34.keep k0;have l3:=x34.keep k3;have o0:=x34.keep g0;have o1:=x34.keep g1;have o2:=x34.keep g2;have of:=fun m=>((bcell x34).2 br m hbr3).trans (gf m);have hb4:br<w4.heap.size:=cell_lt o0;have X4:=hide x34;clear x4 x34)
      all_goals
       go_wp2_with fail;go_roundw
       case rel=>exact⟨j+1,by omega,by go_num,(unhide FN w4 (unhide X4)).1,(unhide FN w4 (unhide X4)).2.1,(unhide FN w4 (unhide X4)).2.2.1 w.heap.size 0 _ (by have:=(unhide BRW).1;omega) k0,fun q h1 h2=>((unhide FN w4 (unhide X4)).2.2.2 q (by omega) h2).trans (unhide FQ q (by omega) h2 h1)⟩
       case measure=>simp [intOf];omega
    ·have nif:¬i*2=f*2:=by omega
     have en:∀W,(binOp .eql 126 (.pointer (some ⟨bn,i*2,none⟩)) (ndp bn f)).run Tryz.prog W=.ok (.bool false) W:=fun W=>ptr_no bn (i*2) (f*2) W nif
     have NX:=hide (show rgR x t f (j+1)=rgR x t f j from unhide SS (by unfold mvW;rw[if_neg (fun h=>by have:=h.2;simp only at this;omega)]));go_wp2_with fail;go_region_with (go_at_call 199;refine(find_some ⟨2,0,(i:Int)⟩ b x.cells.length bn 0 kn i _ rfl ((Ext.refl _).drew.keep c13) hi).mono ?_;rintro e w3 ⟨rfl,x3⟩;rw[Nat.zero_add];have X3:=hide (Ext.trans (unhide XB2) (Ext.trans (Ext.refl _).drew x3));clear x3)
     all_goals
      have R:=hide (show SAt B w3 b (rgR x t f (j+1)) ar kr v4 v8 br cB cO bn pb pa pk kn hd vf F vk K role by rw[unhide NX];exact(unhide hG).ext (unhide X3));have RX:=hide (show Ext a w3∧w3.cell? ⟨w.heap.size,0,none⟩=some (.pointer (some ⟨b,0,none⟩))∧∀q,q<w.heap.size→q≠br→w3.heap[q]?=w.heap[q]? from⟨(unhide hxr).1.trans (unhide X3),(unhide X3).keep (unhide hxr).2.1,fun q h1 h2=>((unhide X3).block q (by omega)).trans ((unhide hxr).2.2 q h1 h2)⟩);go_wp2_with fail;go_roundw
      case rel=>exact⟨j+1,by omega,by go_num,unhide R,unhide RX⟩
      case measure=>simp [intOf];omega
  ·have je:j=x.regs.length:=by omega
   subst je;have HR:=hide (unhide hG);obtain⟨a0,a1,a2,a3,a4,a5,a6⟩:S7 wr (cB f) (cO f) (x.c f):=(unhide HR).rw.s f hf;have a7:wr.cell? ⟨cB f,cO f+7,none⟩=some (.slice (pa f) (x.c f).prs.length (pk f)):=(unhide HR).rw.p7 f hf;obtain⟨b0,b1,b2,b3,b4,b5,b6⟩:S7 wr (cB t) (cO t) (x.c t):=(unhide HR).rw.s t ht;have b7:wr.cell? ⟨cB t,cO t+7,none⟩=some (.slice (pa t) (x.c t).prs.length (pk t)):=(unhide HR).rw.p7 t ht;have fct:=((unhide HR).rw.nc t ht).1.2;have fcf:=((unhide HR).rw.nc f hf).1.2;obtain⟨nt0,nt1⟩:=(unhide HR).sb.nd t ht;obtain⟨nf0,nf1⟩:=(unhide HR).sb.nd f hf;have hbf:cB f<wr.heap.size:=cell_lt a0;have hbt:cB t<wr.heap.size:=cell_lt b0;have hbn:bn<wr.heap.size:=cell_lt nt0;have NBT:=hide (show ¬bn=cB t from fun e=>by have h1:=(unhide HR).sp.n;have h2:=(unhide HR).sp.c t ht;rw[e] at h1;omega);have NBF:=hide (show ¬bn=cB f from fun e=>by have h1:=(unhide HR).sp.n;have h2:=(unhide HR).sp.c f hf;rw[e] at h1;omega);have nbt:¬bn=cB t:=unhide NBT;have ntb:¬cB t=bn:=fun e=>unhide NBT e.symm
   have nbf:¬bn=cB f:=unhide NBF;have nfb:¬cB f=bn:=fun e=>unhide NBF e.symm
   have XR:=hide (unhide hxr).1;have QR:=hide (unhide hxr).2.2;have HBC:=hide (And.intro ((unhide HR).rw.nc t ht) ((unhide HR).rw.nc f hf));have F8:=hide (fun k hk=>((unhide HR).ext (Ext.refl wr).drew).rw.far8 ht hf (fun e=>htf e.symm) (Nat.le_refl _) (cellW_only wr.drew (cB t) (cO t) (x.c f) (.slice (pa f) (x.c f).prs.length (pk f))) (cellW_other wr.drew (cB t) (cO t) (x.c f) (.slice (pa f) (x.c f).prs.length (pk f))) k hk);have LTS:=hide (show t<x.cells.length∧f<x.cells.length∧t≠f from⟨ht,hf,htf⟩);have hsz:w.heap.size<wr.heap.size:=cell_lt (unhide hxr).2.1;clear hG hxr hj;go_wp2_with fail
   go_region
   all_goals
    obtain⟨W5,hW5⟩:∃W,W=(cellW wr (cB t) (cO t) (x.c f) (.slice (pa f) (x.c f).prs.length (pk f))).drew:=⟨_,rfl⟩;have W5E:=hide (show W5=cellW wr.drew (cB t) (cO t) (x.c f) (.slice (pa f) (x.c f).prs.length (pk f)) by rw[hW5,cellW_drew]);have N5:=(cellW_only wr.drew (cB t) (cO t) (x.c f) (.slice (pa f) (x.c f).prs.length (pk f))).block bn (by simpa using hbn) nbt;have mt0:W5.cell? ⟨bn,t*2,none⟩=some (iv t):=by rw[unhide W5E,World.cell?_of_block (a:=⟨bn,t*2,none⟩) N5];exact nt0
    have mf1:W5.cell? ⟨bn,f*2+1,none⟩=some (.pointer (some ⟨cB f,cO f,none⟩)):=by rw[unhide W5E,World.cell?_of_block (a:=⟨bn,f*2+1,none⟩) N5];exact nf1
    have d0:W5.cell? ⟨cB f,cO f,none⟩=some (iv (x.c f).st):=by rw[unhide W5E];exact(unhide F8 0 (by omega)).trans a0
    have d1:W5.cell? ⟨cB f,cO f+1,none⟩=some (iv (x.c f).kind):=by rw[unhide W5E];exact(unhide F8 1 (by omega)).trans a1
    have d2:W5.cell? ⟨cB f,cO f+2,none⟩=some (iv (x.c f).weak):=by rw[unhide W5E];exact(unhide F8 2 (by omega)).trans a2
    have d3:W5.cell? ⟨cB f,cO f+3,none⟩=some (iv (x.c f).last):=by rw[unhide W5E];exact(unhide F8 3 (by omega)).trans a3
    have d4:W5.cell? ⟨cB f,cO f+4,none⟩=some (iv (x.c f).born):=by rw[unhide W5E];exact(unhide F8 4 (by omega)).trans a4
    have d5:W5.cell? ⟨cB f,cO f+5,none⟩=some (iv (x.c f).color):=by rw[unhide W5E];exact(unhide F8 5 (by omega)).trans a5
    have d6:W5.cell? ⟨cB f,cO f+6,none⟩=some (iv (x.c f).to):=by rw[unhide W5E];exact(unhide F8 6 (by omega)).trans a6
    have d7:W5.cell? ⟨cB f,cO f+7,none⟩=some (.slice (pa f) (x.c f).prs.length (pk f)):=by rw[unhide W5E];exact(unhide F8 7 (by omega)).trans a7
    have fc5:∀j,W5.frozen? ⟨cB f,j,none⟩=false:=by rw[unhide W5E];exact(nf1_cell (w1:=wr.drew) (nf1_block (unhide HBC).2.1 rfl (by simp)) (cellW_nf (w:=wr.drew) (nf1_block (unhide HBC).1.1 rfl (by simp)) _ _ _) (cellW_only wr.drew (cB t) (cO t) (x.c f) (.slice (pa f) (x.c f).prs.length (pk f)))).2
    have hb5:cB f<W5.heap.size:=cell_lt d0;have hn5:bn<W5.heap.size:=cell_lt mt0
    have G6:=hide (show ∃pb' pa' pk' role',SAt B (wipeW W5 (cB f) (cO f) 2 t) b (moveH x t f) ar kr v4 v8 br cB cO bn pb' pa' pk' kn hd vf F vk K role' by
     rw[←rgR_all,unhide W5E];exact smove_world ((unhide HR).ext (Ext.refl wr).drew) t f (unhide LTS).2.2 (unhide LTS).1 (unhide LTS).2.1)
    have X6:=hide (show Ext a (wipeW W5 (cB f) (cO f) 2 t) by
     refine(wipe_only W5 (cB f) (cO f) 2 t).ext ?_ (fun q hq e=>by have:=(unhide HBC).2.2;omega);rw[unhide W5E];exact(cellW_only wr.drew (cB t) (cO t) (x.c f) _).ext (unhide XR).drew (fun q hq e=>by have:=(unhide HBC).1.2;omega))
    have Q6:=hide (show ∀q,q<w.heap.size→q≠br→(∀j,j<x.cells.length→q≠cB j)→(wipeW W5 (cB f) (cO f) 2 t).heap[q]?=w.heap[q]? from fun q h1 h2 h3=>by
     have hw:q<wr.drew.heap.size:=by simpa using (show q<wr.heap.size by omega)
     rw[(wipe_only W5 (cB f) (cO f) 2 t).block q (by rw[unhide W5E];exact Nat.lt_of_lt_of_le hw (cellW_only wr.drew (cB t) (cO t) (x.c f) _).size) (h3 f hf),unhide W5E,(cellW_only wr.drew (cB t) (cO t) (x.c f) _).block q hw (h3 t ht)];exact unhide QR q h1 h2)
    unfold cellW at hW5;rw[←hW5];clear hW5 N5 a0 a1 a2 a3 a4 a5 a6 a7 b0 b1 b2 b3 b4 b5 b6 b7 fct fcf hbf hbt hbn nt0 nt1 nf0 nf1;obtain⟨W6,hW6⟩:∃W,W=wipeW W5 (cB f) (cO f) 2 t:=⟨_,rfl⟩;rw[←hW6] at G6 X6 Q6;unfold wipeW at hW6;go_wp2_with fail
    go_region
    all_goals
     rw[←hW6];go_wp2_with fail
     go_end0
     obtain⟨pb',pa',pk',role',g6⟩:=unhide G6;exact⟨rfl,⟨pb',pa',pk',role',g6.ext (Ext.refl _).drew,unhide Q6⟩,(unhide X6).drew⟩
def pv(bn on:Nat)(o:Option Nat):Value:=match o with | none=>.pointer none | some i=>ptr bn (on+i*2)
structure Grow(Q:Nat→Prop)(Mt Mt' St St':List Nat):Prop where
 m:∀i,i∈Mt→i∈Mt'
 s:∀i,i∈St→i∈St'
 n:∀i,i∈Mt'→i∈Mt∨(Q i∧i∈St')
 w:2*Mt.length+St'.length≤2*Mt'.length+St.length
 l:Mt.length≤Mt'.length
theorem Grow.refl{Q:Nat→Prop}{Mt St:List Nat}:Grow Q Mt Mt St St:=⟨fun _ h=>h,fun _ h=>h,fun _ h=>.inl h,Nat.le_refl _,Nat.le_refl _⟩
theorem Grow.trans{Q:Nat→Prop}{M1 M2 M3 S1 S2 S3:List Nat}(h:Grow Q M1 M2 S1 S2)(k:Grow Q M2 M3 S2 S3):Grow Q M1 M3 S1 S3:=
 ⟨fun i hi=>k.m i (h.m i hi),fun i hi=>k.s i (h.s i hi),fun i hi=>by
  rcases k.n i hi with q | q
  ·rcases h.n i q with r | ⟨r,s⟩
   ·exact .inl r
   ·exact .inr ⟨r,k.s i s⟩
  ·exact .inr q,by have:=h.w;have:=k.w;omega,Nat.le_trans h.l k.l⟩
theorem Grow.mono{Q Q':Nat→Prop}{M1 M2 S1 S2:List Nat}(h:Grow Q M1 M2 S1 S2)(hq:∀i,Q i→Q' i):Grow Q' M1 M2 S1 S2:=
 ⟨h.m,h.s,fun i hi=>by
  rcases h.n i hi with q | ⟨q,r⟩
  ·exact .inl q
  ·exact .inr ⟨hq i q,r⟩,h.w,h.l⟩
structure WtAt(w:World)(base bw r1 r2 bn on:Nat)(v:Value)(f:Nat→Value)(g:Nat→List (Option Nat)):Prop where
 c3:w.cell? ⟨bw,3,none⟩=some (Value.map (some r2))
 m:MapF w r2 bn on f
 row:∀k,w.ownsRow base 126 1 (f k) (g k).length ((g k).map (pv bn on))
 dis:∀k k' b,k≠k'→(f k).ownBlock=some b→(f k').ownBlock≠some b
 av:∀k b,(f k).ownBlock=some b→v.ownBlock≠some b
 a1:∀k,(f k).ownBlock≠some bw
 a2:∀k,(f k).ownBlock≠some r1
 a3:∀k,(f k).ownBlock≠some r2
 n1:r2≠bw
 n2:r2≠r1
 n3:v.ownBlock≠some r2
 b2:base≤r2
theorem WtAt.ext{w w':World}{base bw r1 r2 bn on:Nat}{v:Value}{f:Nat→Value}{g:Nat→List (Option Nat)}(h:WtAt w base bw r1 r2 bn on v f g)(e:Ext w w'):WtAt w' base bw r1 r2 bn on v f g:=
 ⟨e.keep h.c3,h.m.block (e.block r2 h.m.lt),fun k=>ownsRow_of_block (h.row k) (fun b hb=>e.block b ((h.row k).lt b hb).2),h.dis,h.av,h.a1,h.a2,h.a3,h.n1,h.n2,h.n3,h.b2⟩
theorem WtAt.step{w w':World}{base bw r1 r2 bn on:Nat}{v v':Value}{f:Nat→Value}{g:Nat→List (Option Nat)}(h:WtAt w base bw r1 r2 bn on v f g)(k:KFr bw r1 v v' w w'):WtAt w' base bw r1 r2 bn on v' f g:=by
 refine⟨k.keep 3 _ (by omega) h.c3,h.m.block (k.block r2 h.m.lt h.n1 h.n2 h.n3),fun q=>ownsRow_of_block (h.row q) (fun b hb=>k.block b ((h.row q).lt b hb).2 (fun e=>h.a1 q (e ▸ hb)) (fun e=>h.a2 q (e ▸ hb)) (h.av q b hb)),h.dis,fun q b hb e=>?_,h.a1,h.a2,h.a3,h.n1,h.n2,fun e=>?_,h.b2⟩
 ·rcases k.own with o | ⟨y,o,hy⟩
  ·rw[o] at e;exact h.av q b hb e
  ·rw[o] at e;cases e;have:=((h.row q).lt b hb).2;omega
 ·rcases k.own with o | ⟨y,o,hy⟩
  ·rw[o] at e;exact h.n3 e
  ·rw[o] at e;cases e;have:=h.m.lt;omega
theorem ownsRow_form{w:World}{base n:Nat}{t:TypeId}{v:Value}{xs:List Value}(h:w.ownsRow base t 1 v n xs):∃ad cap,v=.slice ad n cap∧(0<n→∃gb,ad=some ⟨gb,0,none⟩):=by
 rcases h.2 with⟨h0,h1⟩ | ⟨g,cap,cur,h0,_⟩
 ·subst h1;exact⟨none,0,h0,fun q=>by omega⟩
 ·exact⟨_,cap,h0,fun _=>⟨g,rfl⟩⟩
structure NumAt(w:World)(r bn on:Nat)(O:List Nat):Prop where
 mk' ::
 m:∃es clock,w.heap[r]?=some (.map es clock)∧EntAre bn on (fun k=>iv (O.idxOf k:Nat)) O es.toList
theorem NumAt.block{w w':World}{r bn on:Nat}{O:List Nat}(h:NumAt w r bn on O)(e:w'.heap[r]?=w.heap[r]?):NumAt w' r bn on O:=by
 obtain⟨es,c,h1,h2⟩:=h.m;exact⟨es,c,e.trans h1,h2⟩
theorem NumAt.lt{w:World}{r bn on:Nat}{O:List Nat}(h:NumAt w r bn on O):r<w.heap.size:=by
 obtain⟨es,c,h1,_⟩:=h.m;rcases Nat.lt_or_ge r w.heap.size with q | q
 ·exact q
 ·rw[Array.getElem?_eq_none q] at h1;cases h1
theorem NumAt.push{P:Program}{w:World}{r bn on:Nat}{O:List Nat}(h:NumAt w r bn on O){mt t e et:TypeId}{i:TypeInfo}(hm:P.underlying mt=some (.map t et))(ht:P.underlying t=some (.pointer e))(hi:P.info? e=some i)(hs:i.size≠0)(k:Nat)(hk:¬k∈O):
  ∃w',(Instr.mapUpdate mt (.map (some r)) (ptr bn (on+k*2)) (iv (O.length:Nat))).run P w=.ok () w'∧NumAt w' r bn on (O++[k])∧w'.os=w.os∧w'.tape=w.tape∧w'.output=w.output∧w'.heap.size=w.heap.size∧(∀q:Nat,q≠r→w'.heap[q]?=w.heap[q]?):=by
 have hlt:=h.lt;obtain⟨es,c,h1,h2⟩:=h.m;obtain⟨g,hg,ho⟩:=findKeyF w t e i ht hi hs bn on _ k es.toList O h2;rcases ho with⟨j,rfl,hj⟩ | ⟨n,rfl⟩
 ·exact(hk (List.mem_of_getElem? hj)).elim
 ·refine⟨{ w with heap:=w.heap.setIfInBounds r (.map (es.push { key:=ptr bn (on+k*2),val:=iv (O.length:Nat),born:=c }) (c+1)) },?_,⟨es.push { key:=ptr bn (on+k*2),val:=iv (O.length:Nat),born:=c },c+1,?_,?_⟩,rfl,rfl,rfl,by simp,fun q hq=>?_⟩
  ·simp [Instr.mapUpdate,run_underlying hm,MapKept.run_getObj_map h1,checkKey_ptr w t e ht,hg,MapKept.run_setObj_map _ h1]
  ·show(w.heap.setIfInBounds r _)[r]?=_;rw[Array.getElem?_setIfInBounds,if_pos rfl,if_pos hlt]
  ·unfold EntAre;have e2:O.map (fun q=>(ptr bn (on+q*2),(iv ((O++[k]).idxOf q:Nat):Value)))=O.map (fun q=>(ptr bn (on+q*2),iv (O.idxOf q:Nat))):=List.map_congr_left (fun q hq=>by rw[List.idxOf_append,if_pos hq]);have h2':es.toList.map (fun e=>(e.key,e.val))=O.map (fun k=>(ptr bn (on+k*2),iv (O.idxOf k:Nat))):=h2;have e3:(O++[k]).idxOf k=O.length:=by rw[List.idxOf_append,if_neg hk];simp
   rw[Array.toList_push,List.map_append,List.map_append,e2,h2'];simp [e3]
  ·show(w.heap.setIfInBounds r _)[q]?=_;rw[Array.getElem?_setIfInBounds,if_neg (fun e=>hq e.symm)]
structure NbAt(w:World)(base bm bv r bn on n:Nat)(v:Value)(O:List Nat):Prop where
 c0:w.cell? ⟨bm,0,none⟩=some (.pointer (some ⟨bv,0,none⟩))
 c1:w.cell? ⟨bm,1,none⟩=some (Value.map (some r))
 c2:w.cell? ⟨bm,2,none⟩=some v
 f2:w.frozen? ⟨bm,2,none⟩=false
 m:NumAt w r bn on O
 s:w.ownsRow base 126 1 v O.length (O.map (fun i=>ptr bn (on+i*2)))
 a1:v.ownBlock≠some bm
 a2:v.ownBlock≠some r
 a3:bm≠r
 b1:base≤bm
 b2:base≤r
 nd:O.Nodup
 rg:∀i,i∈O→i<n
theorem NbAt.rlt{w:World}{base bm bv r bn on n:Nat}{v:Value}{O:List Nat}(h:NbAt w base bm bv r bn on n v O):bm<w.heap.size∧r<w.heap.size:=⟨cell_lt h.c0,h.m.lt⟩
theorem NbAt.ext{w w':World}{base bm bv r bn on n:Nat}{v:Value}{O:List Nat}(h:NbAt w base bm bv r bn on n v O)(e:Ext w w'):NbAt w' base bm bv r bn on n v O:=
 ⟨e.keep h.c0,e.keep h.c1,e.keep h.c2,by rw[e.frozen (p:=⟨bm,2,none⟩) h.rlt.1];exact h.f2,h.m.block (e.block r h.rlt.2),ownsRow_of_block h.s (fun k hk=>e.block k (h.s.lt k hk).2),h.a1,h.a2,h.a3,h.b1,h.b2,h.nd,h.rg⟩
theorem NbAt.len{w:World}{base bm bv r bn on n:Nat}{v:Value}{O:List Nat}(h:NbAt w base bm bv r bn on n v O):O.length≤n:=len_le h.nd h.rg
theorem NbAt.form{w:World}{base bm bv r bn on n:Nat}{v:Value}{O:List Nat}(h:NbAt w base bm bv r bn on n v O):∃ad cap,v=.slice ad O.length cap∧(0<O.length→∃gb,ad=some ⟨gb,0,none⟩):=ownsRow_form h.s
theorem NbAt.cell{w:World}{base bm bv r bn on n gb cap l:Nat}{O:List Nat}(h:NbAt w base bm bv r bn on n (.slice (some ⟨gb,0,none⟩) l cap) O)(i:Nat)(hi:i<O.length):w.cell? ⟨gb,i,none⟩=some (ptr bn (on+O[i]*2)):=by
 have hl:l=O.length:=by
  rcases h.s.2 with⟨e,_⟩ | ⟨g,cap,cur,e,_⟩
  ·cases e
  ·cases e;rfl
 subst hl;have:=World.ownsRow.cellAt h.s i (by omega);rw[this,List.getElem?_map,List.getElem?_eq_getElem hi];rfl
theorem NbAt.add{w w1 w2:World}{base bm bv r bn on n g cap i:Nat}{v:Value}{O:List Nat}{ob:Obj}(h:NbAt w base bm bv r bn on n v O)(hi:i<n)(hm:¬i∈O)
  (hm1:NumAt w1 r bn on (O++[i])) (hos:w1.os=w.os) (ht:w1.tape=w.tape) (hou:w1.output=w.output) (hsz:w1.heap.size=w.heap.size) (hbl:∀k:Nat,k≠r→w1.heap[k]?=w.heap[k]?)
  (hown:w2.ownsRow base 126 1 (.slice (some ⟨g,0,none⟩) (O.length+1) cap) (O.length+1) (O.map (fun i=>ptr bn (on+i*2))++[ptr bn (on+i*2)])) (hg:(w1.alloc ob).grownBy w2 v.ownBlock) (hat:v.ownBlock=some g∨g=w1.heap.size+1) :
  NbAt (w2.setCell ⟨bm,2,none⟩ (.slice (some ⟨g,0,none⟩) (O.length+1) cap)) base bm bv r bn on n (.slice (some ⟨g,0,none⟩) (O.length+1) cap) (O++[i])∧
  KFr bm r v (.slice (some ⟨g,0,none⟩) (O.length+1) cap) w (w2.setCell ⟨bm,2,none⟩ (.slice (some ⟨g,0,none⟩) (O.length+1) cap))∧w2.cell? ⟨bm,2,none⟩=some v∧w2.frozen? ⟨bm,2,none⟩=false:=by
 have hr:=h.rlt;have hs1:w1.heap.size+1≤w2.heap.size:=by have:=hg.size;simpa using this
 have blk:∀k:Nat,k<w1.heap.size→v.ownBlock≠some k→w2.heap[k]?=w1.heap[k]?:=fun k hk hv=>(hg.block k (by simp;omega) (fun e=>hv e.symm)).trans (Below.heap_alloc w1 ob k hk)
 have hbw:w2.heap[bm]?=w.heap[bm]?:=(blk bm (by omega) h.a1).trans (hbl bm h.a3)
 have hgb:g≠bm∧g≠r:=by
  rcases hat with e | e
  ·exact⟨fun q=>h.a1 (q ▸ e),fun q=>h.a2 (q ▸ e)⟩
  ·omega
 have cc:∀o' v',w.cell? ⟨bm,o',none⟩=some v'→w2.cell? ⟨bm,o',none⟩=some v':=fun o' v' hc=>(World.cell?_of_block (a:=⟨bm,o',none⟩) hbw).trans hc
 have hc2:=cc 2 _ h.c2;have hf2:w2.frozen? ⟨bm,2,none⟩=false:=(World.frozen?_of_block (a:=⟨bm,2,none⟩) hbw).trans h.f2;refine⟨⟨?_,?_,World.cell?_setCell_same _ _ _ hc2,by rw[World.frozen?_setCell];exact hf2,?_,?_,fun e=>hgb.1 (by simpa [Value.ownBlock] using e),fun e=>hgb.2 (by simpa [Value.ownBlock] using e),h.a3,h.b1,h.b2,?_,?_⟩,⟨?_,?_,?_,?_,fun k hk h1 h2 h3=>?_,?_,fun o u ho hc=>(cell_other _ (.inr (fun e=>ho e.symm))).trans (cc o u hc)⟩,hc2,hf2⟩
 ·rw[cell_other _ (.inr (by omega))];exact cc 0 _ h.c0
 ·rw[cell_other _ (.inr (by omega))];exact cc 1 _ h.c1
 ·refine NumAt.block (w:=w1) hm1 ?_;rw[Below.heap_setCell _ _ _ _ (show r≠bm from fun e=>h.a3 e.symm)];exact blk r (by omega) h.a2
 ·refine ownsRow_of_block (by simpa using hown) (fun k hk=>Below.heap_setCell _ _ _ _ ?_);simp [Value.ownBlock] at hk;show k≠bm;omega
 ·rw[List.nodup_append];exact⟨h.nd,by simp,fun a ha b hb=>by simp at hb;rw[hb];intro e;exact hm (e ▸ ha)⟩
 ·intro j hj;rcases List.mem_append.1 hj with q | q
  ·exact h.rg j q
  ·simp at q;omega
 ·exact(hg.os.trans rfl).trans hos
 ·exact(hg.tape.trans rfl).trans ht
 ·exact(hg.output.trans rfl).trans hou
 ·have:(w2.setCell ⟨bm,2,none⟩ (.slice (some ⟨g,0,none⟩) (O.length+1) cap)).heap.size=w2.heap.size:=by simp [World.setCell]
  omega
 ·rw[Below.heap_setCell _ _ _ _ (show k≠bm from h1),blk k (by omega) h3];exact hbl k h2
 ·rcases hat with e | e
  ·exact .inl e.symm
  ·exact .inr ⟨g,rfl,by omega⟩
structure Nd where
 kind:Int
 weak:Int
 last:Int
 rank:Int
 prs:List Pr
structure WRow(w:World)(B n k:Nat)(f:Nat→Wd):Prop where
 s:∀q,q<k→WdAt w B (0+q*3) (f q)
 o:∀q,q<n*3→Open w B q
 n:Nf1 B w
theorem WRow.ext{w w':World}{B n k:Nat}{f:Nat→Wd}(h:WRow w B n k f)(e:Ext w w'):WRow w' B n k f:=⟨fun q hq=>(h.s q hq).ext e,fun q hq=>(h.o q hq).ext e,h.n.ext e⟩
theorem Open.only{S:Nat→Prop}{w w':World}{b o:Nat}(h:Open w b o)(k:Only S w w')(hs:¬S b):Open w' b o:=by
 obtain⟨⟨v,hv⟩,hf⟩:=h;exact⟨⟨v,k.keep hs hv⟩,by rw[k.frozen (cell_lt hv) hs];exact hf⟩
theorem Nf1.only{S:Nat→Prop}{w w':World}{B:Nat}(h:Nf1 B w)(k:Only S w w')(hs:¬S B):Nf1 B w':=⟨Nat.lt_of_lt_of_le h.1 k.size,fun j=>by rw[k.frozen h.1 hs];exact h.2 j⟩
theorem WRow.only{S:Nat→Prop}{w w':World}{B n k:Nat}{f:Nat→Wd}(h:WRow w B n k f)(e:Only S w w')(hs:¬S B):WRow w' B n k f:=
 ⟨fun q hq=>⟨e.keep hs (h.s q hq).1,e.keep hs (h.s q hq).2.1,e.keep hs (h.s q hq).2.2⟩,fun q hq=>(h.o q hq).only e hs,h.n.only e hs⟩
theorem WRow.step{w:World}{B n k:Nat}{f:Nat→Wd}(h:WRow w B n k f)(hk:k<n):WRow (w.setCells B (k*3) [iv (f k).k,iv (f k).n,iv (f k).a]) B n (k+1) f∧Only (fun q=>q=B) w (w.setCells B (k*3) [iv (f k).k,iv (f k).n,iv (f k).a]):=by
 have ho1:∀j,j<[iv (f k).k,iv (f k).n,iv (f k).a].length→Open w B (k*3+j):=fun j hj=>h.o (k*3+j) (by simp at hj;omega)
 refine⟨⟨fun q hq=>?_,fun q hq=>put_open (h.o q hq),h.n.put⟩,put_only (S:=fun q=>q=B) rfl (Only.refl _ w)⟩;by_cases e:q=k
 ·subst e;refine⟨?_,?_,?_⟩
  ·have:=put_in ho1 0 (by simp)
   simpa using this
  ·have:=put_in ho1 1 (by simp)
   simpa using this
  ·have:=put_in ho1 2 (by simp)
   simpa using this
 ·have hx:=h.s q (by omega);refine⟨?_,?_,?_⟩
  ·rw[put_out _ _ (Or.inr (by simp;omega))];exact hx.1
  ·rw[put_out _ _ (Or.inr (by simp;omega))];exact hx.2.1
  ·rw[put_out _ _ (Or.inr (by simp;omega))];exact hx.2.2
theorem infoNodesS:(Tryz.prog.info? 99).map (fun i=>(i.zero,i.size,i.bytes))=some (some (.agg #[iv 0,iv 0,iv 0,iv 0,.slice none 0 0]),5,56):=by kernel_rfl
def OpAll(w:World)(B n:Nat):Prop:=(∀q,q<n→Open w B q)∧Nf1 B w
theorem OpAll.ext{w w':World}{B n:Nat}(h:OpAll w B n)(e:Ext w w'):OpAll w' B n:=⟨fun q hq=>(h.1 q hq).ext e,h.2.ext e⟩
theorem OpAll.alloc{w:World}{B n:Nat}(h:OpAll w B n)(o:Obj):OpAll (w.alloc o) B n:=h.ext ((Ext.refl w).alloc o)
theorem OpAll.drew{w:World}{B n:Nat}(h:OpAll w B n):OpAll w.drew B n:=h.ext (Ext.refl w).drew
theorem OpAll.only{S:Nat→Prop}{w w':World}{B n:Nat}(h:OpAll w B n)(k:Only S w w')(hs:¬S B):OpAll w' B n:=⟨fun q hq=>(h.1 q hq).only k hs,h.2.only k hs⟩
structure NRow(w:World)(B n k B0:Nat)(c:Nat→Cl)(m:Pr→Pr)(rk:Nat→Int)(pb:Nat→Nat):Prop where
 s:∀q,q<k→w.cell? ⟨B,q*5,none⟩=some (iv (c q).kind)∧w.cell? ⟨B,q*5+1,none⟩=some (iv (c q).weak)∧w.cell? ⟨B,q*5+2,none⟩=some (iv (c q).last)∧w.cell? ⟨B,q*5+3,none⟩=some (iv (rk q))∧w.cell? ⟨B,q*5+4,none⟩=some (.slice (some ⟨pb q,0,none⟩) (c q).prs.length (c q).prs.length)
 p:∀q,q<k→SlP w (.slice (some ⟨pb q,0,none⟩) (c q).prs.length (c q).prs.length) ((c q).prs.map m)∧Nf1 (pb q) w∧B0≤pb q∧pb q≠B
 d:∀q q',q<k→q'<k→q≠q'→pb q≠pb q'
 o:OpAll w B (n*5)
theorem NRow.ext{w w':World}{B n k B0:Nat}{c:Nat→Cl}{m:Pr→Pr}{rk:Nat→Int}{pb:Nat→Nat}(h:NRow w B n k B0 c m rk pb)(e:Ext w w'):NRow w' B n k B0 c m rk pb:=
 ⟨fun q hq=>⟨e.keep (h.s q hq).1,e.keep (h.s q hq).2.1,e.keep (h.s q hq).2.2.1,e.keep (h.s q hq).2.2.2.1,e.keep (h.s q hq).2.2.2.2⟩,fun q hq=>⟨SlP.ext e (h.p q hq).1,(h.p q hq).2.1.ext e,(h.p q hq).2.2⟩,h.d,h.o.ext e⟩
theorem NRow.only{S:Nat→Prop}{w w':World}{B n k B0:Nat}{c:Nat→Cl}{m:Pr→Pr}{rk:Nat→Int}{pb:Nat→Nat}(h:NRow w B n k B0 c m rk pb)(e:Only S w w')(hB:¬S B)(hp:∀q,q<k→¬S (pb q)):NRow w' B n k B0 c m rk pb:=
 ⟨fun q hq=>⟨e.keep hB (h.s q hq).1,e.keep hB (h.s q hq).2.1,e.keep hB (h.s q hq).2.2.1,e.keep hB (h.s q hq).2.2.2.1,e.keep hB (h.s q hq).2.2.2.2⟩,fun q hq=>⟨slP_only e (fun b o n c z=>by simp at z;rw[←z.1.1];exact hp q hq) (h.p q hq).1,(h.p q hq).2.1.only e (hp q hq),(h.p q hq).2.2⟩,h.d,h.o.only e hB⟩
theorem NRow.step{w:World}{B n k B0 P:Nat}{c:Nat→Cl}{m:Pr→Pr}{rk:Nat→Int}{pb:Nat→Nat}(h:NRow w B n k B0 c m rk pb)(hk:k<n)(hP:SlP w (.slice (some ⟨P,0,none⟩) (c k).prs.length (c k).prs.length) ((c k).prs.map m))(hn:Nf1 P w)(h0:B0≤P)(hB:P≠B)(hd:∀q,q<k→pb q≠P)(hr:rk k=0):
  NRow (w.setCells B (k*5) [iv (c k).kind,iv (c k).weak,iv (c k).last,iv 0,.slice (some ⟨P,0,none⟩) (c k).prs.length (c k).prs.length]) B n (k+1) B0 c m rk (fun q=>if q=k then P else pb q)∧Only (fun q=>q=B) w (w.setCells B (k*5) [iv (c k).kind,iv (c k).weak,iv (c k).last,iv 0,.slice (some ⟨P,0,none⟩) (c k).prs.length (c k).prs.length]):=by
 have ho1:∀j,j<[iv (c k).kind,iv (c k).weak,iv (c k).last,iv 0,(.slice (some ⟨P,0,none⟩) (c k).prs.length (c k).prs.length:Value)].length→Open w B (k*5+j):=fun j hj=>h.o.1 (k*5+j) (by simp at hj;omega)
 have hon:Only (fun q=>q=B) w (w.setCells B (k*5) [iv (c k).kind,iv (c k).weak,iv (c k).last,iv 0,.slice (some ⟨P,0,none⟩) (c k).prs.length (c k).prs.length]):=put_only (S:=fun q=>q=B) rfl (Only.refl _ w);refine⟨⟨fun q hq=>?_,fun q hq=>?_,fun q q' hq hq' hne=>?_,⟨fun q hq=>put_open (h.o.1 q hq),h.o.2.put⟩⟩,hon⟩
 ·by_cases e:q=k
  ·subst e;simp only [if_true];refine⟨?_,?_,?_,?_,?_⟩
   ·have:=put_in ho1 0 (by simp)
    simpa using this
   ·have:=put_in ho1 1 (by simp)
    simpa using this
   ·have:=put_in ho1 2 (by simp)
    simpa using this
   ·have:=put_in ho1 3 (by simp);rw[hr];simpa using this
   ·have:=put_in ho1 4 (by simp)
    simpa using this
  ·simp only [e,if_false];have hx:=h.s q (by omega);refine⟨?_,?_,?_,?_,?_⟩
   ·rw[put_out _ _ (Or.inr (by simp;omega))];exact hx.1
   ·rw[put_out _ _ (Or.inr (by simp;omega))];exact hx.2.1
   ·rw[put_out _ _ (Or.inr (by simp;omega))];exact hx.2.2.1
   ·rw[put_out _ _ (Or.inr (by simp;omega))];exact hx.2.2.2.1
   ·rw[put_out _ _ (Or.inr (by simp;omega))];exact hx.2.2.2.2
 ·by_cases e:q=k
  ·subst e;simp only [if_true];exact⟨slP_only hon (fun b o n c z y=>by injection z with z1 _ _;injection z1 with z2;injection z2 with z3;exact hB (z3.trans y)) hP,hn.only hon hB,h0,hB⟩
  ·simp only [e,if_false];have hx:=h.p q (by omega);exact⟨slP_only hon (fun b o n c z y=>by injection z with z1 _ _;injection z1 with z2;injection z2 with z3;exact hx.2.2.2 (z3.trans y)) hx.1,hx.2.1.only hon hx.2.2.2,hx.2.2⟩
 ·by_cases e:q=k
  ·subst e;have e':¬q'=q:=fun z=>hne z.symm
   simp only [if_true,e',if_false];exact fun z=>hd q' (by omega) z.symm
  ·by_cases e':q'=k
   ·subst e';simp only [if_true,e,if_false];exact hd q (by omega)
   ·simp only [e,e',if_false];exact h.d q q' (by omega) (by omega) hne
theorem NRow.rank{w:World}{B n B0:Nat}{c:Nat→Cl}{m:Pr→Pr}{rk rk':Nat→Int}{pb:Nat→Nat}(h:NRow w B n n B0 c m rk pb)(q:Nat)(hq:q<n)(v:Int)(h1:rk' q=v)(h2:∀p,p<n→p≠q→rk' p=rk p):
  NRow (w.setCell ⟨B,q*5+3,none⟩ (iv v)) B n n B0 c m rk' pb∧Only (fun z=>z=B) w (w.setCell ⟨B,q*5+3,none⟩ (iv v)):=by
 have hon:Only (fun z=>z=B) w (w.setCell ⟨B,q*5+3,none⟩ (iv v)):=Only.setCell (S:=fun z=>z=B) (p:=⟨B,q*5+3,none⟩) (Only.refl _ w) rfl (iv v);refine⟨⟨fun p hp=>?_,fun p hp=>?_,h.d,⟨fun p hp=>(h.o.1 p hp).set _ _,h.o.2.set _ _⟩⟩,hon⟩
 ·have hx:=h.s p hp;refine⟨?_,?_,?_,?_,?_⟩
  ·rw[cell_other _ (.inr (by omega))];exact hx.1
  ·rw[cell_other _ (.inr (by omega))];exact hx.2.1
  ·rw[cell_other _ (.inr (by omega))];exact hx.2.2.1
  ·by_cases e:p=q
   ·subst e;rw[h1];exact(h.o.1 (p*5+3) (by omega)).same _
   ·rw[cell_other _ (.inr (by omega)),h2 p hp e];exact hx.2.2.2.1
  ·rw[cell_other _ (.inr (by omega))];exact hx.2.2.2.2
 ·have hx:=h.p p hp;exact⟨slP_only hon (fun b o n c z y=>by injection z with z1 _ _;injection z1 with z2;injection z2 with z3;exact hx.2.2.2 (z3.trans y)) hx.1,hx.2.1.only hon hx.2.2.2,hx.2.2⟩
def rkN(N:List Nat)(oj:Nat→Nat)(k:Nat)(q:Nat):Int:=if N.idxOf (oj q)<k then ((N.idxOf (oj q):Nat):Int)+1 else 0
def GAns(x:Hp)(B:Nat)(w:World)(vr vn:Value):Prop:=∃(N O:List Nat) (br bq:Nat) (pb:Nat→Nat) (f:Nat→Wd) (oj:Nat→Nat),IsW x N∧O=ordO x N∧vr=.slice (some ⟨br,0,none⟩) x.regs.length x.regs.length∧vn=.slice (some ⟨bq,0,none⟩) O.length O.length∧WRow w br x.regs.length x.regs.length f∧(∀q (h:q<x.regs.length),f q=nw x O x.regs[q])∧(∀q (h:q<O.length),oj q=O[q])∧NRow w bq O.length O.length B (fun q=>x.c (oj q)) (np x O) (rkN N oj N.length) pb∧br≠bq∧(∀q,q<O.length→pb q≠br)∧B≤br∧B≤bq
def endH(x:Hp)(y:Hp):Prop:=∃k,EndIs x k∧y=itU k x
theorem endH.snd{x y:Hp}(s:Snd x)(h:endH x y):Snd y∧y.phase=0:=by
 obtain⟨k,a,b⟩:=h;rw[b];exact⟨s.itU k,a.1⟩
def stepH(x:Hp)(n:Nat):Hp:=if x.phase=0∧n≠0 then toPh x 1 0 else x
theorem Snd.stepH{x:Hp}(s:Snd x)(n:Nat):Snd (stepH x n):=by
 unfold Go.Proofs.YtddkhnclmeikfaaGreat.stepH
 split
 ·rename_i h;exact s.begin h.1
 ·exact s
def fitsB(x:Hp)(u:Nat):Bool:=decide (x.used+u≤x.room)
def RdIs(x z:Hp):Prop:=∃y,endH x y∧endH (toPh y 1 0) z
theorem RdIs.snd{x z:Hp}(s:Snd x)(h:RdIs x z):Snd z:=by
 obtain⟨y,h1,h2⟩:=h;exact(h2.snd ((h1.snd s).1.begin (h1.snd s).2)).1
def RoomIs(x:Hp)(u:Nat)(y:Hp):Prop:=(fitsB x u=true∧y=x)∨(fitsB x u=false∧RdIs (forceTo x) y)
theorem RoomIs.snd{x y:Hp}{u:Nat}(s:Snd x)(h:RoomIs x u y):Snd y:=by
 rcases h with⟨_,h⟩ | ⟨_,h⟩
 ·rw[h];exact s
 ·exact h.snd s.forceTo
def paceB(x:Hp)(u:Nat):Bool:=x.per == 0 || (u == 0 || (x.phase == 0 && decide (x.used≤x.start)))
def PaceIs(x:Hp)(u:Nat)(y:Hp):Prop:=(paceB x u=true∧y=x)∨(paceB x u=false∧∃k,StepIs (stepH x (x.per.toNat*u)) (x.per.toNat*u) k∧y=itU k (stepH x (x.per.toNat*u)))
theorem PaceIs.snd{x y:Hp}{u:Nat}(s:Snd x)(h:PaceIs x u y):Snd y:=by
 rcases h with⟨_,h⟩ | ⟨_,k,_,h⟩
 ·rw[h];exact s
 ·rw[h];exact(s.stepH _).itU k
def newC(b k:Int)(n:Nat)(col:Int):Cl:=⟨1,k,0,0,b,col,0,List.replicate n Pr0⟩
def newCol(x:Hp)(t:Nat):Int:=if x.phase=1∨x.phase=2∨(x.phase=3∧x.hand≤(t:Int)) then 2 else 0
def newCs(x:Hp)(t:Nat)(c:Cl):List Cl:=if t<x.cells.length then x.cells.set t c else x.cells++[c]
def makeH(x:Hp)(k:Int)(n:Nat):Hp:={ x with born:=x.born+1,used:=x.used+(1+n),cells:=newCs x (fstFree x) (newC (x.born+1) k n (newCol x (fstFree x))) }
theorem newCs_len(x:Hp)(t:Nat)(c:Cl):(newCs x t c).length=if t<x.cells.length then x.cells.length else x.cells.length+1:=by
 unfold newCs
 split <;> simp
theorem newCs_c(x z:Hp)(t:Nat)(c:Cl)(ht:t≤x.cells.length)(hz:z.cells=newCs x t c)(q:Nat):z.c q=if q=t then c else x.c q:=by
 unfold Hp.c;rw[hz];unfold newCs;by_cases h:t<x.cells.length
 ·rw[if_pos h];simp only [List.getD_eq_getElem?_getD,List.getElem?_set];by_cases e:q=t
  ·subst e;simp [h]
  ·rw[if_neg (fun e'=>e e'.symm),if_neg e]
 ·rw[if_neg h];have te:t=x.cells.length:=by omega
  simp only [List.getD_eq_getElem?_getD];by_cases e:q=t
  ·rw[if_pos e,e,te];simp
  ·rw[if_neg e];by_cases h2:q<x.cells.length
   ·rw[List.getElem?_append_left h2]
   ·rw[List.getElem?_eq_none (by simp;omega),List.getElem?_eq_none (by omega)]
theorem Snd.crowd{x:Hp}(h:Snd x)(hf:∀i,i<x.cells.length→(x.c i).st≠0):x.cells.length≤2*units x.cells:=by
 have r2:=h.r2
 let U:=(List.range x.cells.length).filter (fun i=>(x.c i).st == 1)
 let M:=(List.range x.cells.length).filter (fun i=>(x.c i).st == 2)
 have hU:U.length≤units x.cells:=by
  have key:∀m,m≤x.cells.length→((List.range m).filter (fun i=>(x.c i).st == 1)).length≤units (x.cells.take m):=fun m=>by
   induction m with
   | zero=>intro _;simp
   | succ m ih=>
    intro hm;have i1:=ih (by omega);have ht:x.cells.take (m+1)=x.cells.take m++[x.cells[m]'(by omega)]:=List.take_succ_eq_append_getElem (by omega);rw[List.range_succ,List.filter_append,List.length_append,ht];have eu:units (x.cells.take m++[x.cells[m]'(by omega)])=units (x.cells.take m)+unitsOf (x.c m):=by simp [units,Hp.c_eq x m (by omega)]
    rw[eu];by_cases e:(x.c m).st=1
    ·have:unitsOf (x.c m)=1+(x.c m).prs.length:=by unfold unitsOf;rw[if_pos e]
     simp [e];omega
    ·simp [e];omega
  have:=key x.cells.length (Nat.le_refl _);rw[List.take_length] at this;exact this
 have hM:M.length≤U.length:=by
  have nd:(M.map (fun i=>(x.c i).to.toNat)).Nodup:=by
   rw[List.nodup_iff_pairwise_ne,List.pairwise_map];have pm:M.Pairwise (· < ·):=List.Pairwise.filter _ List.pairwise_lt_range;refine List.Pairwise.imp_of_mem (fun {a b} ha hb hab e=>?_) pm;have ha2:=List.mem_filter.1 ha;have hb2:=List.mem_filter.1 hb;have la:=List.mem_range.1 ha2.1;have lb:=List.mem_range.1 hb2.1;have sa:(x.c a).st=2:=by simpa using ha2.2
   have sb:(x.c b).st=2:=by simpa using hb2.2
   have oa:=r2.1 a la;have ob:=r2.1 b lb;unfold CellOk MovedOk Bare at oa ob;exact r2.2 b lb (by omega) a hab ⟨by omega,by omega,by omega⟩
  have sub:∀z,z∈M.map (fun i=>(x.c i).to.toNat)→z∈U:=fun z hz=>by
   obtain⟨i,hi,e⟩:=List.mem_map.1 hz;have hi2:=List.mem_filter.1 hi;have li:=List.mem_range.1 hi2.1;have si:(x.c i).st=2:=by simpa using hi2.2
   have oi:=r2.1 i li;unfold CellOk MovedOk at oi
   have st:(x.c (x.c i).to.toNat).st=1:=by
    rcases oi with o | o | o
    ·omega
    ·exact o.2.2.2.2.2.1
    ·omega
   rw[←e];exact List.mem_filter.2 ⟨List.mem_range.2 (by omega),by simpa using st⟩
  have:=List.Nodup.length_le_of_subset nd sub
  simpa using this
 have hA:x.cells.length≤U.length+M.length:=by
  have key:∀m,m≤x.cells.length→m≤((List.range m).filter (fun i=>(x.c i).st == 1)).length+((List.range m).filter (fun i=>(x.c i).st == 2)).length:=fun m=>by
   induction m with
   | zero=>intro _;omega
   | succ m ih=>
    intro hm;have i1:=ih (by omega);rw[List.range_succ,List.filter_append,List.filter_append,List.length_append,List.length_append];have:=r2.1 m (by omega);have nf:=hf m (by omega);have s12:(x.c m).st=1∨(x.c m).st=2:=by unfold CellOk at this;omega
    rcases s12 with e | e
    ·simp [e];omega
    ·simp [e];omega
  exact key x.cells.length (Nat.le_refl _)
 omega
def DueTo(x:Hp)(k:Nat)(r:Int):Prop:=(r = -1∧∀i,i<k→(x.c i).last≠2)∨∃i:Nat,r=(i:Int)∧i<k∧(x.c i).last=2∧∀j,j<k→(x.c j).last=2→(x.c i).born≤(x.c j).born
theorem DueTo.no{x:Hp}{k:Nat}{r:Int}(h:DueTo x k r)(hk:(x.c k).last≠2):DueTo x (k+1) r:=by
 rcases h with⟨h,n⟩ | ⟨i,h,hi,di,mi⟩
 ·exact .inl ⟨h,fun j hj=>by rcases (by omega:j<k∨j=k) with q | q;exact n j q;subst q;exact hk⟩
 ·exact .inr ⟨i,h,by omega,di,fun j hj dj=>by rcases (by omega:j<k∨j=k) with q | q;exact mi j q dj;subst q;exact(hk dj).elim⟩
theorem DueTo.first{x:Hp}{k:Nat}(h:DueTo x k (-1))(hk:(x.c k).last=2):DueTo x (k+1) k:=by
 rcases h with⟨h,n⟩ | ⟨i,h,hi,di,mi⟩
 ·exact .inr ⟨k,rfl,by omega,hk,fun j hj dj=>by rcases (by omega:j<k∨j=k) with q | q;exact(n j q dj).elim;subst q;omega⟩
 ·omega
theorem DueTo.less{x:Hp}{k i:Nat}(h:DueTo x k i)(hk:(x.c k).last=2)(hl:(x.c k).born<(x.c i).born):DueTo x (k+1) k:=by
 rcases h with⟨h,n⟩ | ⟨i',h,hi,di,mi⟩
 ·omega
 ·obtain rfl:i'=i:=by omega
  exact .inr ⟨k,rfl,by omega,hk,fun j hj dj=>by rcases (by omega:j<k∨j=k) with q | q;have:=mi j q dj;omega;subst q;omega⟩
theorem DueTo.more{x:Hp}{k i:Nat}(h:DueTo x k i)(hl:(x.c i).born≤(x.c k).born):DueTo x (k+1) i:=by
 rcases h with⟨h,n⟩ | ⟨i',h,hi,di,mi⟩
 ·omega
 ·obtain rfl:i'=i:=by omega
  exact .inr ⟨i',rfl,by omega,di,fun j hj dj=>by rcases (by omega:j<k∨j=k) with q | q;exact mi j q dj;subst q;exact hl⟩
theorem DueTo.form{x:Hp}{k:Nat}{r:Int}(h:DueTo x k r):r = -1∨∃i:Nat,r=(i:Int)∧i<k:=by
 rcases h with⟨h,_⟩ | ⟨i,h,hi,_⟩
 ·exact .inl h
 ·exact .inr ⟨i,h,hi⟩
end Go.Proofs.YtddkhnclmeikfaaGreat
