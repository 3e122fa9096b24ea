import Derived.Test.YtddkhnclmeikfaaGreatLq
import Derived.Test.YtddkhnclmeikfaaGreatRc1
import Derived.Test.YtddkhnclmeikfaaGreatMk2
set_option maxRecDepth 100000
set_option maxHeartbeats 4000000
namespace Go.Proofs.YtddkhnclmeikfaaGreat
open Go.RowKit
attribute [local go_sem ↓] Go.wp_at_zero Go.wp_at_succ
theorem slead_lt{x:Hp}(r2:R2 x)(i:Nat)(hi:i<x.cells.length):lead x i<x.cells.length:=by
 unfold lead
 split
 ·rename_i h;have hs:(x.c i).st=2:=by simpa using h
  have:=r2.1 i hi;unfold CellOk MovedOk at this;omega
 ·exact hi
theorem sfollow_some[Inhabited ProtD]{B:Nat}{w:World}{b:Nat}{x:Hp}{ar:Option Addr}{kr:Nat}{v4 v8:Value}{br bn:Nat}{cB cO:Nat→Nat}{pb:Nat→Nat}{pa:Nat→Option Addr}{pk:Nat→Nat}{kn hd:Nat}{vf:Value}{F:List Int}{vk:Value}{K:List Nat}{role:Nat→Nat}(h:SAt B w b x ar kr v4 v8 br cB cO bn pb pa pk kn hd vf F vk K role)(r2:R2 x)(i:Nat)(hi:i<x.cells.length):
  Calls Tryz.prog 123 #[.pointer (some ⟨b,0,none⟩),.agg #[iv 2,iv 0,iv i]] w fun e w'=>e=.returned (ndp bn (lead x i))∧Ext w w':=by
 have x1:=(Ext.refl w).alloc (.cells #[iv 2,iv 0,iv i] 152);have n13:=h.sb.n13;obtain⟨m0,m1⟩:=h.sb.nd i hi;obtain⟨p0,_,_,_,_,_,p6⟩:=h.rw.s i hi;have QF:=hide (fun W (e:Ext w W)=>find_some ⟨2,0,(i:Int)⟩ b x.cells.length bn 0 kn i W (by simp) (e.keep n13) hi);cases ts:((x.c i).st == 2)
 ·have L:=hide (show lead x i=i by simp only [lead,ts];simp);clear h r2 m0;go_enter Tryz.func123,Tryz.ntmps123;go_wp2_with fail;refine(unhide QF _ x1).mono ?_;rintro e w1 ⟨rfl,hq⟩;rw[Nat.zero_add];have x2:=x1.trans hq;have m1':=x2.keep m1;have p0':=x2.keep p0;clear m1 p0 n13 p6;go_wp2_with fail;go_ret;exact⟨by rw[unhide L];rfl,x2⟩
 ·have hs:(x.c i).st=2:=by simpa using ts
  obtain⟨t,ht⟩:∃t:Nat,(x.c i).to=(t:Int):=⟨(x.c i).to.toNat,by
   have:=r2.1 i hi;unfold CellOk MovedOk at this;omega⟩
  have hti:t<i:=by
   have:=r2.1 i hi;unfold CellOk MovedOk at this;omega
  have L:=hide (show lead x i=t by simp only [lead,ts];simp [ht]);rw[ht] at p6;have t0:(0:Int)≤(t:Int):=by omega
  have t1:(t:Int)<(x.cells.length:Int):=by omega
  clear h r2 m0 ht hs;go_enter Tryz.func123,Tryz.ntmps123;go_wp2_with fail;refine(unhide QF _ x1).mono ?_;rintro e w1 ⟨rfl,hq⟩;rw[Nat.zero_add];have x2:=x1.trans hq;have m1':=x2.keep m1;have p0':=x2.keep p0;have p6':=x2.keep p6;have d13:=x2.keep n13;clear m1 p0 n13 p6;go_wp2_with fail;go_quiet (fail);go_wp2_with fail;go_ret;exact⟨by rw[unhide L];rfl,x2.drewN _⟩
theorem sword_any(bn o:Nat)(pl:Int)(w:World)(m0:w.cell? ⟨bn,o,none⟩=some (iv pl)):
  Calls Tryz.prog 319 #[.pointer (some ⟨bn,o,none⟩)] w fun e w'=>e=.returned (.agg #[iv 2,iv 0,iv pl])∧Ext w w':=by
 have hb:bn<w.heap.size:=cell_lt m0;go_enter Tryz.func319,Tryz.ntmps319;go_wp2_with fail;refine bodyPost_ret (v:=.agg #[iv 2,iv 0,iv pl]) (by simp [results,Tryz.results319,go_sem]) rfl ⟨rfl,?_⟩
 repeat (first | refine Ext.setCell ?_ (Nat.le_refl _) _ | exact(Ext.refl w).alloc _)
theorem sres_num(y:Wd)(b:Nat)(w:World)(k2:(y.k == 2)=false):
  Calls Tryz.prog 324 #[.pointer (some ⟨b,0,none⟩),y.v] w fun e w'=>e=.returned y.v∧Ext w w':=by
 have x1:=((Ext.refl w).alloc (.cells #[iv y.k,iv y.n,iv y.a] 152)).alloc (.cells #[iv 0,iv 0,iv 0] 152);go_enter Tryz.func324,Tryz.ntmps324;go_wp2_with fail;refine(follow_none y b _ k2).mono ?_;rintro e w1 ⟨rfl,hq⟩;have x2:=x1.trans hq;have z1:w.heap.size+1<w1.heap.size:=by have:=hq.size;simp at this;omega
 have z0:w.heap.size<w1.heap.size:=by omega
 have hc1:=(bcell hq).1;have hf1:=(bcell hq).2;have v0:=hq.keep (b:=w.heap.size) (o:=0) (v:=iv y.k) (by simp [go_sem]);have v1:=hq.keep (b:=w.heap.size) (o:=1) (v:=iv y.n) (by simp [go_sem]);have v2:=hq.keep (b:=w.heap.size) (o:=2) (v:=iv y.a) (by simp [go_sem]);have r0:=hq.keep (b:=w.heap.size+1) (o:=0) (v:=iv 0) (by simp [go_sem]);have r1:=hq.keep (b:=w.heap.size+1) (o:=1) (v:=iv 0) (by simp [go_sem]);have r2:=hq.keep (b:=w.heap.size+1) (o:=2) (v:=iv 0) (by simp [go_sem]);clear hq;go_wp2_with fail;refine bodyPost_ret (v:=y.v) (by simp [results,Tryz.results324,go_sem,r0,r1,r2]) rfl ⟨rfl,?_⟩
 repeat (first | refine Ext.setCell ?_ (by show w.heap.size≤w.heap.size+1;omega) _ | exact x2)
theorem sres_at[Inhabited ProtD]{B:Nat}{w:World}{b:Nat}{x:Hp}{ar:Option Addr}{kr:Nat}{v4 v8:Value}{br bn:Nat}{cB cO:Nat→Nat}{pb:Nat→Nat}{pa:Nat→Option Addr}{pk:Nat→Nat}{kn hd:Nat}{vf:Value}{F:List Int}{vk:Value}{K:List Nat}{role:Nat→Nat}(h:SAt B w b x ar kr v4 v8 br cB cO bn pb pa pk kn hd vf F vk K role)(q2:R2 x)(i:Nat)(hi:i<x.cells.length):
  Calls Tryz.prog 324 #[.pointer (some ⟨b,0,none⟩),.agg #[iv 2,iv 0,iv i]] w fun e w'=>e=.returned (.agg #[iv 2,iv 0,iv (lead x i)])∧Ext w w':=by
 have x1:=((Ext.refl w).alloc (.cells #[iv 2,iv 0,iv i] 152)).alloc (.cells #[iv 0,iv 0,iv 0] 152);have HV:=hide h;have M0:=hide (h.sb.nd (lead x i) (slead_lt q2 i hi)).1;clear h;go_enter Tryz.func324,Tryz.ntmps324;go_wp2_with fail;refine(sfollow_some ((unhide HV).ext x1) q2 i hi).mono ?_;rintro e w1 ⟨rfl,hq⟩;have x2:=x1.trans hq;have QH:=hide hq;clear hq;go_wp2_with fail;refine(sword_any bn (lead x i*2) (lead x i) _ (x2.keep (unhide M0))).mono ?_;rintro e w2 ⟨rfl,hq2⟩;have x3:=x2.trans hq2;have hq:=(unhide QH).trans hq2;have z1:w.heap.size+1<w2.heap.size:=by have:=hq.size;simp at this;omega
 have hc1:=(bcell hq).1;have hf1:=(bcell hq).2;have r0:=hq.keep (b:=w.heap.size+1) (o:=0) (v:=iv 0) (by simp [go_sem]);have r1:=hq.keep (b:=w.heap.size+1) (o:=1) (v:=iv 0) (by simp [go_sem]);have r2:=hq.keep (b:=w.heap.size+1) (o:=2) (v:=iv 0) (by simp [go_sem]);clear hq hq2;go_wp2_with fail;refine bodyPost_ret (v:=.agg #[iv 2,iv 0,iv (lead x i)]) (by simp [results,Tryz.results324,go_sem,r0,r1,r2]) rfl ⟨rfl,?_⟩
 repeat (first | refine Ext.setCell ?_ (by show w.heap.size≤w.heap.size+1;omega) _ | exact x3)
theorem sres_any[Inhabited ProtD]{B:Nat}{w:World}{b:Nat}{x:Hp}{ar:Option Addr}{kr:Nat}{v4 v8:Value}{br bn:Nat}{cB cO:Nat→Nat}{pb:Nat→Nat}{pa:Nat→Option Addr}{pk:Nat→Nat}{kn hd:Nat}{vf:Value}{F:List Int}{vk:Value}{K:List Nat}{role:Nat→Nat}(h:SAt B w b x ar kr v4 v8 br cB cO bn pb pa pk kn hd vf F vk K role)(q2:R2 x)(y:Wd)(hy:Formed y x.cells.length):
  Calls Tryz.prog 324 #[.pointer (some ⟨b,0,none⟩),y.v] w fun e w'=>e=.returned (resW x y).v∧Ext w w':=by
 cases q:(y.k == 2)
 ·have e:resW x y=y:=by
   unfold resW;rw[if_neg];intro h;simp [h.1] at q
  rw[e];exact sres_num y b w q
 ·have hk:y.k=2:=by simpa using q
  obtain⟨k,n,a⟩:=y;simp only at hk;subst hk;unfold Formed at hy;simp only at hy;obtain⟨i,rfl⟩:∃i:Nat,a=(i:Int):=⟨a.toNat,by omega⟩;obtain rfl:n=0:=by omega
  have hi:i<x.cells.length:=by omega
  have ei:((i:Int)).toNat=i:=by omega
  have e:resW x ⟨2,0,i⟩=⟨2,0,lead x i⟩:=by
   unfold resW lead;simp only [ei];by_cases h2:(x.c i).st=2
   ·have ht:0≤(x.c i).to:=by
     have:=q2.1 i hi;unfold CellOk MovedOk at this;omega
    have et:(((x.c i).to.toNat:Nat):Int)=(x.c i).to:=by omega
    rw[if_pos ⟨trivial,h2⟩,if_pos (by simpa using h2),et]
   ·rw[if_neg (fun h=>h2 h.2),if_neg (by simpa using h2)]
  rw[e];exact sres_at h q2 i hi
theorem view_box(x:Hp)(w:World)(ar:Option Addr)(kr:Nat)(ac:Option Addr)(kc:Nat)(ag:Option Addr)(kg:Nat):
  ∀o v,#[iv x.room,iv x.used,iv x.born,.slice ar x.regs.length kr,.slice ac x.cells.length kc,iv x.phase,iv x.hand,iv x.sub,.slice ag x.gray.length kg,iv x.per,iv x.start,iv x.rounds,iv x.forced][o]?=some v→((w.alloc (.cells #[iv x.room,iv x.used,iv x.born,.slice ar x.regs.length kr,.slice ac x.cells.length kc,iv x.phase,iv x.hand,iv x.sub,.slice ag x.gray.length kg,iv x.per,iv x.start,iv x.rounds,iv x.forced] 34)).alloc (.cells #[iv x.room,iv x.used,iv x.born,.slice ar x.regs.length kr,.slice ac x.cells.length kc,iv x.phase,iv x.hand,iv x.sub,.slice ag x.gray.length kg,iv x.per,iv x.start,iv x.rounds,iv x.forced,.slice none 0 0,.slice none 0 0] 121)).cell? ⟨w.heap.size+1,o,none⟩=some v:=fun o v hv=>by
 have ho:o<13:=by
  rcases Nat.lt_or_ge o 13 with h' | h'
  ·exact h'
  ·rw[Array.getElem?_eq_none (by simpa using h')] at hv;cases hv
 match o,ho with
 | 0,_ | 1,_ | 2,_ | 3,_ | 4,_ | 5,_ | 6,_ | 7,_ | 8,_ | 9,_ | 10,_ | 11,_ | 12,_=>simp [go_sem];exact Option.some.inj hv
theorem SlC.nth{w:World}{x:Hp}{ac:Option Addr}{kc:Nat}(h:SlC w (.slice ac x.cells.length kc) x.cells)(k:Nat)(hk:k<x.cells.length):∃bc oc,ac=some ⟨bc,oc,none⟩∧bc<w.heap.size∧ClAt w bc (oc+k*8) (x.c k):=by
 obtain⟨_,_,v,_,C⟩:=h;obtain⟨b',o',a,p⟩:=C k hk;rw[Hp.c_eq] at p;simp only [Value.slice.injEq] at v;exact⟨b',o',v.1.trans a,let ⟨_,p0,_⟩:=p;cell_lt p0,p⟩
theorem Opn.start{w w1:World}{x:Hp}{ar:Option Addr}{kr:Nat}{ac:Option Addr}{kc:Nat}{ag:Option Addr}{kg:Nat}(z:Array Value)
  (hq:Ext ((w.alloc (.cells #[iv x.room,iv x.used,iv x.born,.slice ar x.regs.length kr,.slice ac x.cells.length kc,iv x.phase,iv x.hand,iv x.sub,.slice ag x.gray.length kg,iv x.per,iv x.start,iv x.rounds,iv x.forced] 34)).alloc (.cells #[iv x.room,iv x.used,iv x.born,.slice ar x.regs.length kr,.slice ac x.cells.length kc,iv x.phase,iv x.hand,iv x.sub,.slice ag x.gray.length kg,iv x.per,iv x.start,iv x.rounds,iv x.forced,.slice none 0 0,.slice none 0 0] 121)) w1) :
  Opn w ((w1.alloc (.cells (madeCells z (x.cells.length*2)) 124)).setCell ⟨w.heap.size+1,13,none⟩ (.slice (some ⟨w1.heap.size,0,none⟩) x.cells.length x.cells.length)) x w.heap.size (w.heap.size+1) w1.heap.size 0 0 ar kr ac kc ag kg (.slice none 0 0) []:=by
 have xe:Ext w ((w.alloc (.cells #[iv x.room,iv x.used,iv x.born,.slice ar x.regs.length kr,.slice ac x.cells.length kc,iv x.phase,iv x.hand,iv x.sub,.slice ag x.gray.length kg,iv x.per,iv x.start,iv x.rounds,iv x.forced] 34)).alloc (.cells #[iv x.room,iv x.used,iv x.born,.slice ar x.regs.length kr,.slice ac x.cells.length kc,iv x.phase,iv x.hand,iv x.sub,.slice ag x.gray.length kg,iv x.per,iv x.start,iv x.rounds,iv x.forced,.slice none 0 0,.slice none 0 0] 121)):=((Ext.refl w).alloc _).alloc _;have hsz:w.heap.size+2≤w1.heap.size:=by have:=hq.size;simp at this;omega
 have old:∀o v,w1.cell? ⟨w.heap.size+1,o,none⟩=some v→o≠13→((w1.alloc (.cells (madeCells z (x.cells.length*2)) 124)).setCell ⟨w.heap.size+1,13,none⟩ (.slice (some ⟨w1.heap.size,0,none⟩) x.cells.length x.cells.length)).cell? ⟨w.heap.size+1,o,none⟩=some v:=fun o v h ho=>by
  rw[cell_other _ (.inr (fun e=>ho e.symm))];exact((Ext.refl w1).alloc _).keep h
 have c13:(w1.alloc (.cells (madeCells z (x.cells.length*2)) 124)).cell? ⟨w.heap.size+1,13,none⟩=some (.slice none 0 0):=((Ext.refl w1).alloc _).keep (hq.keep (by simp [go_sem]));have c14:w1.cell? ⟨w.heap.size+1,14,none⟩=some (.slice none 0 0):=hq.keep (by simp [go_sem])
 have f14:w1.frozen? ⟨w.heap.size+1,14,none⟩=false:=by
  rw[hq.frozen (p:=⟨w.heap.size+1,14,none⟩) (by simp)];simp [go_sem]
 refine⟨((xe.trans hq).alloc _).setCell (by show _≤w.heap.size+1;omega) _,⟨Nat.le_refl _,by omega,by omega,by simp [World.setCell]⟩,?_,fun o v hv=>old o v (hq.keep (view_box x w ar kr ac kc ag kg o v hv)) ?_,World.cell?_setCell_same _ _ _ c13,fun i hi=>by omega,fun j hj=>(made_open _ _ _ _ _ hj).set _ _,LsAt.nil (old 14 _ c14 (by omega)) ?_,Ho.nil,List.Perm.refl _⟩
 ·rw[cell_other _ (.inl (by omega))];exact((Ext.refl w1).alloc _).keep (hq.keep (by simp [go_sem]))
 ·intro e;rw[e] at hv;simp at hv
 ·rw[World.frozen?_setCell,((Ext.refl w1).alloc _).frozen (p:=⟨w.heap.size+1,14,none⟩) (by show w.heap.size+1<w1.heap.size;omega)];exact f14
theorem open_own(x:Hp)(w:World){ar:Option Addr}{kr:Nat}{ac:Option Addr}{kc:Nat}{ag:Option Addr}{kg:Nat}(hR:SlW w (.slice ar x.regs.length kr) x.regs)(hC:SlC w (.slice ac x.cells.length kc) x.cells)(hG:SlI w (.slice ag x.gray.length kg) x.gray):
  Calls Tryz.prog 67 #[x.v (.slice ar x.regs.length kr) (.slice ac x.cells.length kc) (.slice ag x.gray.length kg)] w fun e w'=>∃b,Hid (e=.returned (.pointer (some ⟨b,0,none⟩)))∧Ext w w'∧Hid ((¬R1 x∧HAt w' b x ar kr ac kc ag kg)∨(R1 x∧∃bx bn vf F,Opn w w' x bx b bn x.cells.length x.cells.length ar kr ac kc ag kg vf F)):=by
 have HSL:=hide (And.intro hR (And.intro hC hG));have lc:x.cells.length≤35184372088832:=let ⟨_,_,_,l,_⟩:=hC;l;clear hR hC hG;go_enter Tryz.func67,Tryz.ntmps67;go_wp2_with fail;have xe:Ext w ((w.alloc (.cells #[iv x.room,iv x.used,iv x.born,.slice ar x.regs.length kr,.slice ac x.cells.length kc,iv x.phase,iv x.hand,iv x.sub,.slice ag x.gray.length kg,iv x.per,iv x.start,iv x.rounds,iv x.forced] 34)).alloc (.cells #[iv x.room,iv x.used,iv x.born,.slice ar x.regs.length kr,.slice ac x.cells.length kc,iv x.phase,iv x.hand,iv x.sub,.slice ag x.gray.length kg,iv x.per,iv x.start,iv x.rounds,iv x.forced,.slice none 0 0,.slice none 0 0] 121)):=((Ext.refl w).alloc _).alloc _;have hh:=hat_of x _ (w.heap.size+1) (view_box x w ar kr ac kc ag kg) (SlW.ext xe (unhide HSL).1) (SlC.ext xe (unhide HSL).2.1) (SlI.ext xe (unhide HSL).2.2);refine(limitsKept_any x (w.heap.size+1) _ hh).mono ?_;rintro e w1 ⟨r,rfl,hr,hq⟩;have X1:=hide (xe.trans hq);cases r
 ·have N:=hide (show ¬R1 x from fun r=>by have:=hr.2 r;simp at this);have H1:=hide (hh.ext hq);clear hr hq hh xe;go_wp2_with fail;go_ret;exact⟨w.heap.size+1,rfl,unhide X1,.inl ⟨unhide N,unhide H1⟩⟩
 have Y:=hide (hr.1 rfl);have hn8:x.cells.length≤8000:=by have:=(unhide Y).room;have:=(unhide Y).cells;omega
 have hsz:w.heap.size+2≤w1.heap.size:=by have:=hq.size;simp at this;omega
 have hs0:w.heap.size<w1.heap.size:=by omega
 have hs1:w.heap.size+1<w1.heap.size:=by omega
 obtain⟨z,hmk⟩:=mkNodes x.cells.length (by omega) w1;have s0:=Opn.start z hq;rw[World.setCell_alloc_past _ _ _ _ hs1] at s0;have S0:=hide s0;clear s0;have b4:w1.cell? ⟨w.heap.size,4,none⟩=some (.slice ac x.cells.length kc):=hq.keep (by simp [go_sem]);have b13:w1.cell? ⟨w.heap.size+1,13,none⟩=some (.slice none 0 0):=hq.keep (by simp [go_sem])
 have g13:w1.frozen? ⟨w.heap.size+1,13,none⟩=false:=by
  rw[hq.frozen (p:=⟨w.heap.size+1,13,none⟩) (by simp)];simp [go_sem]
 clear hr hh xe hq;go_wp2_with fail;go_loopw [22] (fun i wr=>∃(k:Nat) (vf:Value) (F:List Int),k≤x.cells.length∧i=.int .i64 k∧Opn w wr x w.heap.size (w.heap.size+1) w1.heap.size k k ar kr ac kc ag kg vf F) (fun i _=>x.cells.length-(intOf i).toNat)
 case atStart=>exact⟨0,_,_,Nat.zero_le _,rfl,unhide S0⟩
 case round=>
  clear S0 b4 b13 g13 hmk;obtain⟨k,vf,F,hk,rfl,hop⟩:=hrel;have HO:=hide hop;by_cases hlt:k<x.cells.length
  ·obtain⟨bc,oc,hac,hbc,vp,p0',_⟩:=SlC.nth (unhide HSL).2.1 k hlt;have P0:=hide p0';clear p0';have q4:=hop.x4;have q13:=hop.n13;rw[hac] at q4;obtain⟨⟨u1,v1⟩,f1⟩:=hop.o (k*2) (by omega);obtain⟨⟨u2,v2⟩,f2⟩:=hop.o (k*2+1) (by omega);have hk0:(0:Int)≤(k:Int):=by omega
   have hk1:(k:Int)<(x.cells.length:Int):=by omega
   have hbw:w1.heap.size<wr.heap.size:=hop.hb.2.2.2;have L2:=hide (hop.lay hac hlt);have HAC:=hide hac;clear hop hac;go_wp2_with fail
   go_region
   generalize hW:((wr.setCell ⟨w1.heap.size,k*2,none⟩ (.int .i64 k)).setCell ⟨w1.heap.size,k*2+1,none⟩ (.pointer (some ⟨bc,oc+k*8,none⟩))).drew=W2;have L3:=hide ((unhide L2).same (w':=W2) (by rw[←hW];rfl) (by rw[←hW];rfl) (by rw[←hW];rfl) (by rw[←hW];rfl));have q4':=(unhide L3).x4;rw[unhide HAC] at q4';have p0:=(unhide L3).e.keep (unhide P0);have hlen:F.length≤1000000000:=by have:=(unhide L3).len;omega
   have hbs:w1.heap.size+1≤W2.heap.size:=(unhide L3).hb.2.2.2;clear hW L2 q4 q13 v1 v2 f1 f2 hbw;cases s0:((x.c k).st == 0)
   ·have L4:=hide ((unhide L3).skip s0);go_wp2_with fail;go_roundw
    case rel=>exact⟨k+1,vf,F,by omega,by go_num,unhide L4⟩
    case measure=>simp [intOf];omega
   ·go_wp2_with fail;refine(put_ls _ (w1.heap.size+1) (w.heap.size+1) 14 vf F (k:Int) (unhide L3).f hbs (unhide L3).fo (by omega)).mono ?_;rintro e w3 ⟨rfl,v3,F3,l3,o3,p3,q3⟩;have L4:=hide ((unhide L3).put s0 l3 o3 p3 q3);clear l3 o3 p3 q3;go_wp2_with fail;go_roundw
    case rel=>exact⟨k+1,v3,F3,by omega,by go_num,unhide L4⟩
    case measure=>simp [intOf];omega
  ·have hk2:k=x.cells.length:=by omega
   subst hk2;have D:=hide hop;have E:=hide hop.e;clear hop hk hlt;go_wp2_with fail;go_ret;exact⟨w.heap.size+1,rfl,unhide E,.inr ⟨unhide Y,_,_,_,_,unhide D⟩⟩
theorem open_any(x:Hp)(w:World){ar:Option Addr}{kr:Nat}{ac:Option Addr}{kc:Nat}{ag:Option Addr}{kg:Nat}(hR:SlW w (.slice ar x.regs.length kr) x.regs)(hC:SlC w (.slice ac x.cells.length kc) x.cells)(hG:SlI w (.slice ag x.gray.length kg) x.gray):
  Calls Tryz.prog 67 #[x.v (.slice ar x.regs.length kr) (.slice ac x.cells.length kc) (.slice ag x.gray.length kg)] w fun e w'=>∃b,Hid (e=.returned (.pointer (some ⟨b,0,none⟩)))∧Ext w w'∧Hid ((¬R1 x∧HAt w' b x ar kr ac kc ag kg)∨(R1 x∧∃an kn base vf F,VAt w' b x ar kr ac kc ag kg an kn∧FAt w' b x base vf F∧Hid (∃bn on,an=some ⟨bn,on,none⟩))):=
 (open_own x w hR hC hG).mono fun _ _ ⟨b,he,hx,h⟩=>⟨b,he,hx,by
  rcases h with h | ⟨h1,bx,bn,vf,F,h2⟩
  ·exact .inl h
  ·exact .inr ⟨h1,_,_,_,_,_,(h2.done hR hC hG).1,(h2.done hR hC hG).2,⟨_,_,rfl⟩⟩⟩
theorem dalloc_new(w:World)(n:Nat)(cs:Array Value)(t:TypeId)(j:Nat):((w.drewN n).alloc (.cells cs t)).cell? ⟨w.heap.size,j,none⟩=cs[j]?:=by
 have e:(w.drewN n).heap.size=w.heap.size:=by simp
 have:=heap_alloc_new (w.drewN n) (.cells cs t);rw[e] at this;exact cell_of_row _ w.heap.size j _ _ (0,0) this
theorem dalloc_old(w:World)(n:Nat)(o:Obj)(b j:Nat)(h:b<w.heap.size):((w.drewN n).alloc o).cell? ⟨b,j,none⟩=w.cell? ⟨b,j,none⟩:=by
 have x:=((Ext.refl w).drewN n).alloc o;exact x.cell (p:=⟨b,j,none⟩) h
theorem dalloc_fr(w:World)(n:Nat)(cs:Array Value)(t:TypeId)(j:Nat):((w.drewN n).alloc (.cells cs t)).frozen? ⟨w.heap.size,j,none⟩=false:=by
 have e:(w.drewN n).heap.size=w.heap.size:=by simp
 have key:∀W:World,(W.alloc (.cells cs t)).frozen? ⟨W.heap.size,j,none⟩=false:=fun W=>by simp [go_sem]
 have:=key (w.drewN n);rw[e] at this;exact this
theorem SAt.ring[Inhabited ProtD]{B:Nat}{w:World}{b:Nat}{x:Hp}{ar:Option Addr}{kr:Nat}{v4 v8:Value}{br bn:Nat}{cB cO:Nat→Nat}{pb:Nat→Nat}{pa:Nat→Option Addr}{pk:Nat→Nat}{kn hd:Nat}{vf:Value}{F:List Int}{vk:Value}{K:List Nat}{role:Nat→Nat}{w':World}{hd':Nat}{G:List Int}(h:SAt B w b x ar kr v4 v8 br cB cO bn pb pa pk kn hd vf F vk K role)(r:RAt w' b bn hd' G)(o:Only (fun q=>q=b) w w')(n:Nf1 b w')(c:∀k,(k<15∨k=4017)→w'.cell? ⟨b,k,none⟩=w.cell? ⟨b,k,none⟩):
  SAt B w' b { x with gray:=G } ar kr v4 v8 br cB cO bn pb pa pk kn hd' vf F vk K role:=by
 have far:∀q,q<w.heap.size→role q≠0→w'.heap[q]?=w.heap[q]?:=fun q hq hr=>o.block q hq (fun e=>hr (by rw[e];exact h.sp.b))
 have fn:=far bn h.sb.lo.2.2.1 (by rw[h.sp.n];omega);refine⟨⟨h.sb.bx.of fun k hk=>c k (by omega),h.sb.ha,(c 13 (by omega)).trans h.sb.n13,fun k hk=>⟨(World.cell?_of_block (a:=⟨bn,_,none⟩) fn).trans (h.sb.nd k hk).1,(World.cell?_of_block (a:=⟨bn,_,none⟩) fn).trans (h.sb.nd k hk).2⟩,⟨(c 14 (by omega)).trans h.sb.fr.hd,n.2 14,ownsRow_of_block h.sb.fr.own (fun q hq=>far q (h.sb.fr.own.lt q hq).2 (by rw[h.sp.f q hq];omega)),h.sb.fr.apart⟩,r,(c 4017 (by omega)).trans h.sb.k0,ownsRow_of_block h.sb.kp (fun q hq=>far q (h.sb.kp.lt q hq).2 (by rw[h.sp.k q hq];omega)),n,⟨h.sb.lo.1,h.sb.lo.2.1,h.sb.lo.2.2.of fn o.size⟩⟩,?_,⟨h.sp.b,h.sp.n,h.sp.r,h.sp.c,h.sp.f,h.sp.k,h.sp.p⟩,h.pr.of (fun q hq h1=>far q hq (by rw[h1];omega)) (fun _ _ h=>h)⟩;have:=h.rw.same o.size (fun hl=>far br (h.rw.nr hl).1.1 (by rw[h.sp.r hl];omega)) (fun q hq=>far (cB q) (h.rw.nc q hq).1.1 (by rw[h.sp.c q hq];omega)) (fun q hq hl=>far (pb q) (h.rw.pl q hq hl).2.1.1 (by rw[h.sp.p q hq hl];omega));exact⟨this.r,this.s,this.p7,this.p,this.pl,this.nr,this.nc,this.d,this.dp,this.dc,this.kp⟩
theorem SAt.start[Inhabited ProtD]{B:Nat}{w1 w2:World}{x:Hp}{bx b2 bn:Nat}{ar:Option Addr}{kr:Nat}{ac:Option Addr}{kc:Nat}{ag:Option Addr}{kg:Nat}{vf:Value}{F:List Int}{br bc:Nat}{pb:Nat→Nat}{pa:Nat→Option Addr}{pk:Nat→Nat}{Z:Array Value}{T:TypeId}(hz:∀q,(default:ProtD).z q=none)
  (ho:Opn w1 w2 x bx b2 bn x.cells.length x.cells.length ar kr ac kc ag kg vf F) (hrw:Rws B w1 x br bc pb pa pk) (hB:B≤w1.heap.size) (har:0<x.regs.length→ar=some ⟨br,0,none⟩) (hac:0<x.cells.length→ac=some ⟨bc,0,none⟩) (hr:0<x.regs.length)
  (hZ:Z.size=4018∧(Z[0]?=some (iv x.room)∧Z[1]?=some (iv x.used)∧Z[2]?=some (iv x.born)∧Z[3]?=some (.slice ar x.regs.length kr)∧Z[4]?=some (.slice ac x.cells.length kc)∧Z[5]?=some (iv x.phase)∧Z[6]?=some (iv x.hand)∧Z[7]?=some (iv x.sub)∧Z[8]?=some (.slice ag x.gray.length kg)∧Z[9]?=some (iv x.per)∧Z[10]?=some (iv x.start)∧Z[11]?=some (iv x.rounds)∧Z[12]?=some (iv x.forced)∧Z[13]?=some (.slice (some ⟨bn,0,none⟩) x.cells.length x.cells.length)∧Z[14]?=some vf)∧Z[4015]?=some (iv 0)∧Z[4016]?=some (iv 0)∧Z[4017]?=some (.slice none 0 0)) :
  ∃role,SAt B (w2.alloc (.cells Z T)) w2.heap.size { x with gray:=[] } ar kr (.slice ac x.cells.length kc) (.slice ag x.gray.length kg) br (fun _=>bc) (fun q=>q*8) bn pb pa pk x.cells.length 0 vf F (.slice none 0 0) [] role:=by
 obtain⟨hZs,⟨z0,z1,z2,z3,z4,z5,z6,z7,z8,z9,z10,z11,z12,z13,z14⟩,y0,y1,y2⟩:=hZ;obtain⟨hb1,hb2,hb3,hb4⟩:=ho.hb;have xe:Ext w1 (w2.alloc (.cells Z T)):=ho.e.alloc _;have x2:Ext w2 (w2.alloc (.cells Z T)):=(Ext.refl w2).alloc _;have hnew:(w2.alloc (.cells Z T)).heap[w2.heap.size]?=some (.cells Z T):=heap_alloc_new w2 _;have cz:∀o,(w2.alloc (.cells Z T)).cell? ⟨w2.heap.size,o,none⟩=Z[o]?:=fun o=>cell_of_row _ w2.heap.size o _ _ (0,0) hnew
 have nz:Nf1 w2.heap.size (w2.alloc (.cells Z T)):=⟨by simp,fun j=>by simp [go_sem]⟩;have lr:=(hrw.nr hr).1.1;have lsz:=ho.e.size;have lp:∀q,q<x.cells.length→0<pk q→pb q<w1.heap.size:=fun q hq hl=>(hrw.pl q hq hl).2.1.1
 have lf:∀q,vf.ownBlock=some q→bn+1≤q∧q<w2.heap.size:=fun q hq=>ho.f.own.lt q hq
 refine⟨fun q=>if q=w2.heap.size then 0 else if q=bn then 1 else if q=br then 2 else if 0<x.cells.length∧q=bc then 3 else
  (open Classical in if h:∃i,i<x.cells.length∧0<pk i∧pb i=q then 6+Classical.choose h else 4),⟨⟨(cz 0).trans z0,(cz 1).trans z1,(cz 2).trans z2,(cz 3).trans z3,(cz 4).trans z4,(cz 5).trans z5,(cz 6).trans z6,(cz 7).trans z7,(cz 8).trans z8,(cz 9).trans z9,(cz 10).trans z10,(cz 11).trans z11,(cz 12).trans z12⟩,har,(cz 13).trans z13,fun i hi=>?_,⟨(cz 14).trans z14,nz.2 14,own_less (ho.f.own.alloc _) (by omega),fun e=>by have:=(lf _ e).2;omega⟩,⟨by omega,by simp,(cz 4015).trans y0,(cz 4016).trans y1,fun i hi=>by simp at hi,fun j hj=>⟨Z[15+j]'(by omega),(cz _).trans (by simp)⟩⟩,(cz 4017).trans y2,World.ownsRow_nil _ _ _ _,nz,⟨by omega,by omega,by simp;omega,fun j hj=>(ho.o j hj).ext x2⟩⟩,?_,?_,fun q o h=>by rw[hz q] at h;cases h⟩
 ·obtain⟨bc',oc,e,p,q⟩:=ho.n i hi;have e2:=(hac (Nat.lt_of_le_of_lt (Nat.zero_le _) hi)).symm.trans e;simp only [Option.some.injEq,Addr.mk.injEq] at e2;obtain⟨rfl,rfl,_⟩:=e2;rw[Nat.zero_add] at q;exact⟨x2.keep p,x2.keep q⟩
 ·have:=(hrw.ext xe).rwn;exact⟨this.r,this.s,this.p7,this.p,this.pl,this.nr,this.nc,this.d,this.dp,this.dc,this.kp⟩
 ·refine⟨if_pos rfl,?_,fun _=>?_,fun q hq=>?_,fun q hq=>?_,fun q hq=>by simp [Value.ownBlock] at hq,fun q hq hl=>?_⟩
  ·rw[if_neg (by omega),if_pos rfl]
  ·rw[if_neg (by omega),if_neg (by omega),if_pos rfl]
  ·have hl:0<x.cells.length:=by have:q<x.cells.length:=hq;omega
   have l1:=(hrw.nc hl).1.1;have l2:=hrw.d hl;rw[if_neg (by omega),if_neg (by omega),if_neg (fun e=>l2 e.symm),if_pos ⟨hl,rfl⟩]
  ·have l1:=lf q hq;rw[if_neg (by omega),if_neg (by omega),if_neg (by omega),if_neg (fun e=>by have:=(hrw.nc e.1).1.1;omega),dif_neg (fun⟨i,h1,h2,h3⟩=>by have:=lp i h1 h2;omega)]
  ·have l1:=lp q hq hl;have l2:=(hrw.pl q hq hl).2.2.1;have hex:∃i,i<x.cells.length∧0<pk i∧pb i=pb q:=⟨q,hq,hl,rfl⟩;rw[if_neg (by omega),if_neg (by omega),if_neg l2.1,if_neg (fun e=>l2.2 e.2),dif_pos hex];have sp:=Classical.choose_spec hex
   have:Classical.choose hex=q:=by
    rcases Nat.decEq (Classical.choose hex) q with h | h
    ·exact absurd sp.2.2 (hrw.dp _ q sp.1 hq h sp.2.1 hl)
    ·exact h
   rw[this]
def pairW(w:World)(b:Nat)(p:Pr):World:=(((((w.setCell ⟨b,0,none⟩ (.int .i64 p.key.k)).setCell ⟨b,1,none⟩ (.int .i64 p.key.n)).setCell ⟨b,2,none⟩ (.int .i64 p.key.a)).setCell ⟨b,3,none⟩ (.int .i64 p.val.k)).setCell ⟨b,4,none⟩ (.int .i64 p.val.n)).setCell ⟨b,5,none⟩ (.int .i64 p.val.a)
theorem pairW_at(w:World)(b:Nat)(p:Pr)(v0 v1 v2 v3 v4 v5:Value)(h0:w.cell? ⟨b,0,none⟩=some v0)(h1:w.cell? ⟨b,1,none⟩=some v1)(h2:w.cell? ⟨b,2,none⟩=some v2)(h3:w.cell? ⟨b,3,none⟩=some v3)(h4:w.cell? ⟨b,4,none⟩=some v4)(h5:w.cell? ⟨b,5,none⟩=some v5):PrAt (pairW w b p) b 0 p:=by
 unfold pairW;refine⟨?_,?_,?_,?_,?_,?_⟩
 ·iterate 5 rw[cell_other _ (.inr (by omega))]
  exact cs_same h0
 ·iterate 4 rw[cell_other _ (.inr (by omega))]
  refine cs_same (u:=v1) ?_;rw[cell_other _ (.inr (by omega))];exact h1
 ·iterate 3 rw[cell_other _ (.inr (by omega))]
  refine cs_same (u:=v2) ?_
  iterate 2 rw[cell_other _ (.inr (by omega))]
  exact h2
 ·iterate 2 rw[cell_other _ (.inr (by omega))]
  refine cs_same (u:=v3) ?_
  iterate 3 rw[cell_other _ (.inr (by omega))]
  exact h3
 ·rw[cell_other _ (.inr (by omega))];refine cs_same (u:=v4) ?_
  iterate 4 rw[cell_other _ (.inr (by omega))]
  exact h4
 ·refine cs_same (u:=v5) ?_
  iterate 5 rw[cell_other _ (.inr (by omega))]
  exact h5
theorem pairW_ext{a w:World}{b:Nat}(p:Pr)(h:Ext a w)(hb:a.heap.size≤b):Ext a (pairW w b p):=by
 unfold pairW;exact(((((h.setCell (p:=⟨b,0,none⟩) hb _).setCell (p:=⟨b,1,none⟩) hb _).setCell (p:=⟨b,2,none⟩) hb _).setCell (p:=⟨b,3,none⟩) hb _).setCell (p:=⟨b,4,none⟩) hb _).setCell (p:=⟨b,5,none⟩) hb _
theorem pair_box(w:World)(n:Nat)(p:Pr)(t:TypeId):Ext w (pairW ((w.drewN n).alloc (.cells #[.int .i64 0,.int .i64 0,.int .i64 0,.int .i64 0,.int .i64 0,.int .i64 0] t)) w.heap.size p)∧PrAt (pairW ((w.drewN n).alloc (.cells #[.int .i64 0,.int .i64 0,.int .i64 0,.int .i64 0,.int .i64 0,.int .i64 0] t)) w.heap.size p) w.heap.size 0 p:=
 ⟨pairW_ext p (((Ext.refl w).drewN n).alloc _) (Nat.le_refl _),pairW_at _ _ p _ _ _ _ _ _ (dalloc_new w n _ t 0) (dalloc_new w n _ t 1) (dalloc_new w n _ t 2) (dalloc_new w n _ t 3) (dalloc_new w n _ t 4) (dalloc_new w n _ t 5)⟩
theorem SAt.setc[Inhabited ProtD]{B:Nat}{w:World}{b:Nat}{x:Hp}{ar:Option Addr}{kr:Nat}{v4 v8:Value}{br bn:Nat}{cB cO:Nat→Nat}{pb:Nat→Nat}{pa:Nat→Option Addr}{pk:Nat→Nat}{kn hd:Nat}{vf:Value}{F:List Int}{vk:Value}{K:List Nat}{role:Nat→Nat}{w':World}{i:Nat}{c':Cl}
  (h:SAt B w b x ar kr v4 v8 br cB cO bn pb pa pk kn hd vf F vk K role) (hi:i<x.cells.length) (hp:c'.prs=(x.c i).prs) (o:Only (fun q=>q=cB i) w w') (hs:S7 w' (cB i) (cO i) c') (ho:∀k,(k<cO i∨cO i+7≤k)→w'.cell? ⟨cB i,k,none⟩=w.cell? ⟨cB i,k,none⟩) (nf:Nf1 (cB i) w') :
  SAt B w' b { x with cells:=x.cells.set i c' } ar kr v4 v8 br cB cO bn pb pa pk kn hd vf F vk K role:=by
 have far:∀q,q<w.heap.size→role q≠3→w'.heap[q]?=w.heap[q]?:=fun q hq hr=>o.block q hq (fun e=>hr (by rw[e];exact h.sp.c i hi))
 have hl:({ x with cells:=x.cells.set i c' }:Hp).cells.length=x.cells.length:=by simp
 have hc:=Hp.c_set x i c' hi
 have hpr:∀q,(({ x with cells:=x.cells.set i c' }:Hp).c q).prs=(x.c q).prs:=fun q=>by
  rw[hc q];by_cases e:q=i
  ·rw[if_pos e,hp,e]
  ·rw[if_neg e]
 have sb:=h.sb.same o.size (far b h.sb.nb.1 (by rw[h.sp.b];omega)) (far bn h.sb.lo.2.2.1 (by rw[h.sp.n];omega)) (fun q hq=>far q (h.sb.fr.own.lt q hq).2 (by rw[h.sp.f q hq];omega)) (fun q hq=>far q (h.sb.kp.lt q hq).2 (by rw[h.sp.k q hq];omega));have pf:∀q,q<x.cells.length→0<pk q→w'.heap[pb q]?=w.heap[pb q]?:=fun q hq hl=>far (pb q) (h.rw.pl q hq hl).2.1.1 (by rw[h.sp.p q hq hl];omega)
 have cf:∀q,q<x.cells.length→cB q≠cB i→w'.heap[cB q]?=w.heap[cB q]?:=fun q hq e=>o.block (cB q) (h.rw.nc q hq).1.1 e
 have ck:∀q,q<x.cells.length→q≠i→∀k,k<8→w'.cell? ⟨cB q,cO q+k,none⟩=w.cell? ⟨cB q,cO q+k,none⟩:=fun q hq e k hk=>by
  by_cases e2:cB q=cB i
  ·rw[e2];rcases h.rw.dc q i hq hi e with d | d | d
   ·exact(d e2).elim
   ·exact ho _ (by omega)
   ·exact ho _ (by omega)
  ·exact World.cell?_of_block (a:=⟨cB q,_,none⟩) (cf q hq e2)
 have cn:∀q,q<x.cells.length→Nf1 (cB q) w':=fun q hq=>by
  by_cases e2:cB q=cB i
  ·rw[e2];exact nf
  ·exact nf1_block (h.rw.nc q hq).1 (cf q hq e2) o.size
 refine⟨⟨sb.bx,sb.ha,by rw[hl];exact sb.n13,fun k hk=>sb.nd k (by rw[hl] at hk;exact hk),sb.fr,sb.rg,sb.k0,sb.kp,sb.nb,sb.lo⟩,⟨fun k hk=>?_,fun q hq=>?_,fun q hq=>?_,fun q hq k hk=>?_,fun q hq hlq=>?_,fun hr=>⟨nf1_block (h.rw.nr hr).1 (far br (h.rw.nr hr).1.1 (by rw[h.sp.r hr];omega)) o.size,(h.rw.nr hr).2⟩,fun q hq=>⟨cn q (by rw[hl] at hq;exact hq),(h.rw.nc q (by rw[hl] at hq;exact hq)).2⟩,fun q hq=>h.rw.d q (by rw[hl] at hq;exact hq),fun q q' hq hq' hne h1 h2=>?_,fun q q' hq hq' hne=>h.rw.dc q q' (by rw[hl] at hq;exact hq) (by rw[hl] at hq';exact hq') hne,fun q hq=>?_⟩,⟨h.sp.b,h.sp.n,h.sp.r,fun q hq=>h.sp.c q (by rw[hl] at hq;exact hq),h.sp.f,h.sp.k,fun q hq hlq=>?_⟩,h.pr.of (fun q hq h1=>far q hq (by rw[h1];omega)) (fun _ _ h=>h)⟩
 ·exact(h.rw.r k hk).of fun j _=>World.cell?_of_block (a:=⟨br,_,none⟩) (far br (h.rw.nr (by have:k<x.regs.length:=hk;omega)).1.1 (by rw[h.sp.r (by have:k<x.regs.length:=hk;omega)];omega))
 ·rw[hl] at hq;rw[hc q];by_cases e:q=i
  ·subst e;rw[if_pos rfl];exact hs
  ·rw[if_neg e];exact(h.rw.s q hq).of fun j hj=>ck q hq e j (by omega)
 ·rw[hl] at hq;rw[hpr q];by_cases e:q=i
  ·subst e;rw[ho _ (by omega)];exact h.rw.p7 q hq
  ·rw[ck q hq e 7 (by omega)];exact h.rw.p7 q hq
 ·rw[hl] at hq;have e2:(({ x with cells:=x.cells.set i c' }:Hp).c q).p k=(x.c q).p k:=by simp only [Cl.p,hpr q]
  rw[hpr q] at hk;rw[e2];exact(h.rw.p q hq k hk).of fun j _=>World.cell?_of_block (a:=⟨pb q,_,none⟩) (pf q hq (h.rw.pw hq (by omega)))
 ·rw[hl] at hq;obtain⟨a1,a2,a3,a4⟩:=h.rw.pl q hq hlq;exact⟨a1,nfp_block a2 (pf q hq hlq) o.size,⟨a3.1,fun j hj=>a3.2 j (by rw[hl] at hj;exact hj)⟩,a4⟩
 ·rw[hl] at hq hq';exact h.rw.dp q q' hq hq' hne h1 h2
 ·rw[hl] at hq;rw[hpr q];exact h.rw.kp q hq
 ·rw[hl] at hq;exact h.sp.p q hq hlq
theorem smarking_any(x:Hp)(b:Nat)(w:World)(c5:w.cell? ⟨b,5,none⟩=some (iv x.phase)):
  Calls Tryz.prog 145 #[.pointer (some ⟨b,0,none⟩)] w fun e w'=>e=.returned (.bool (mkB x))∧w'=w:=by
 cases q:(x.phase == 1)
 ·have E:=hide (show mkB x=(x.phase == 2) by simp [mkB,q]);go_enter Tryz.func145,Tryz.ntmps145;go_wp2_with fail;go_ret;exact⟨by rw[unhide E];rfl,rfl⟩
 ·have E:=hide (show mkB x=true by simp [mkB,q]);go_enter Tryz.func145,Tryz.ntmps145;go_wp2_with fail;go_ret;exact⟨by rw[unhide E];rfl,rfl⟩
theorem swhite_any(c:Cl)(bn i cb co:Nat)(w:World)(m1:w.cell? ⟨bn,i*2+1,none⟩=some (.pointer (some ⟨cb,co,none⟩)))(s:S7 w cb co c):
  Calls Tryz.prog 146 #[ndp bn i] w fun e w'=>e=.returned (.bool (whB c))∧w'=w:=by
 have s0:=s.1;have s5:=s.2.2.2.2.2.1;clear s;cases q:(c.st == 1)
 ·have E:=hide (show whB c=false by simp [whB,q]);go_enter Tryz.func146,Tryz.ntmps146;go_wp2_with fail;go_ret;exact⟨by rw[unhide E];rfl,rfl⟩
 ·have E:=hide (show whB c=(c.color == 0) by simp [whB,q]);go_enter Tryz.func146,Tryz.ntmps146;go_wp2_with fail;go_ret;exact⟨by rw[unhide E];rfl,rfl⟩
theorem sshade_fr[Inhabited ProtD]{B:Nat}{b:Nat}{x:Hp}{ar:Option Addr}{kr:Nat}{v4 v8:Value}{br bn:Nat}{cB cO:Nat→Nat}{pb:Nat→Nat}{pa:Nat→Option Addr}{pk:Nat→Nat}{kn hd:Nat}{vf:Value}{F:List Int}{vk:Value}{K:List Nat}{role:Nat→Nat}(i:Nat)(w:World)
  (h:SAt B w b x ar kr v4 v8 br cB cO bn pb pa pk kn hd vf F vk K role) (hi:i<x.cells.length) (hg:shadeB x i=true→x.gray.length<4000) (a:World) (ha:a.heap.size≤B) (hx:Ext a w) :
  Calls Tryz.prog 82 #[.pointer (some ⟨b,0,none⟩),ndp bn i] w fun e w'=>e=.returned (.tuple #[])∧Hid (SAt B w' b (shadeH x i) ar kr v4 v8 br cB cO bn pb pa pk kn hd vf F vk K role)∧Ext a w'∧Hid (∀q,q<w.heap.size→q≠b→q≠cB i→w'.heap[q]?=w.heap[q]?):=by
 have H:=hide h;have c5:=h.sb.bx.2.2.2.2.2.1;obtain⟨m0,m1⟩:=h.sb.nd i hi;have S:=hide (h.rw.s i hi);clear h;go_enter Tryz.func82,Tryz.ntmps82;go_wp2_with fail;refine(smarking_any x b _ c5).mono ?_;rintro e w1 ⟨rfl,rfl⟩;cases q1:mkB x
 ·have E:=hide (show shadeH x i=x by unfold shadeH;rw[if_neg (by simp [shadeB,q1])]);go_wp2_with fail
  try simp only [Exit.inBlock,Exit.then]
  refine bodyPost_ret (results_none rfl _ _ _) rfl ?_;exact⟨rfl,by rw[unhide E];exact unhide H,hx,fun _ _ _ _=>rfl⟩
 ·go_wp2_with fail;refine(swhite_any (x.c i) bn i (cB i) (cO i) _ m1 (unhide S)).mono ?_;rintro e w2 ⟨rfl,rfl⟩;cases q2:whB (x.c i)
  ·have E:=hide (show shadeH x i=x by unfold shadeH;rw[if_neg (by simp [shadeB,q2])]);go_wp2_with fail
   try simp only [Exit.inBlock,Exit.then]
   refine bodyPost_ret (results_none rfl _ _ _) rfl ?_;exact⟨rfl,by rw[unhide E];exact unhide H,hx,fun _ _ _ _=>rfl⟩
  ·have hb:shadeB x i=true:=by simp [shadeB,q1,q2]
   have E:=hide (show shadeH x i={ x with cells:=x.cells.set i (grayC (x.c i)),gray:=x.gray++[(i:Int)] } by unfold shadeH;rw[if_pos hb]);have hl4:=hg hb;have s5:=(unhide S).2.2.2.2.2.1;have f5:=((unhide H).rw.nc i hi).1.2 (cO i+5)
   have C:=hide (show SAt B (w2.setCell ⟨cB i,cO i+5,none⟩ (iv 1)) b { x with cells:=x.cells.set i (grayC (x.c i)) } ar kr v4 v8 br cB cO bn pb pa pk kn hd vf F vk K role from
    (unhide H).setc hi rfl (Only.setCell (S:=fun q=>q=cB i) (Only.refl _ w2) (p:=⟨cB i,cO i+5,none⟩) rfl _) (by
     obtain⟨a0,a1,a2,a3,a4,a5,a6⟩:=unhide S;refine⟨?_,?_,?_,?_,?_,World.cell?_setCell_same _ _ _ a5,?_⟩
     ·rw[cell_other _ (.inr (by omega))];exact a0
     ·rw[cell_other _ (.inr (by omega))];exact a1
     ·rw[cell_other _ (.inr (by omega))];exact a2
     ·rw[cell_other _ (.inr (by omega))];exact a3
     ·rw[cell_other _ (.inr (by omega))];exact a4
     ·rw[cell_other _ (.inr (by omega))];exact a6) (fun k hk=>cell_other _ (.inr (by omega))) (((unhide H).rw.nc i hi).1.set _ _))
   have X2:=hide (hx.setCell (p:=⟨cB i,cO i+5,none⟩) (show a.heap.size≤cB i from Nat.le_trans ha ((unhide H).rw.nc i hi).2) (iv 1));have LB:=hide (Nat.le_trans ha (unhide H).sb.lo.1);clear hb hg;go_wp2_with fail;refine(rput_any b bn hd i x.gray _ (unhide C).sb.rg (unhide C).sb.nb hl4).mono ?_;rintro e w3 ⟨rfl,hr3,ho3,hn3,hc3⟩;have R:=hide ((unhide C).ring hr3 ho3 hn3 (fun o ho=>hc3 o (by omega)));have FR:=hide (show ∀q,q<w2.heap.size→q≠b→q≠cB i→w3.heap[q]?=w2.heap[q]? from fun q hq h1 h2=>(ho3.block q (by simpa [World.setCell] using hq) h1).trans (Below.heap_setCell _ _ _ _ h2));have XX:=hide (ho3.ext (unhide X2) (fun q hq e=>by have:=unhide LB;omega));clear hr3 ho3 hn3 hc3;go_wp2_with fail
   go_end0
   exact⟨rfl,by rw[unhide E];exact unhide R,unhide XX,unhide FR⟩
theorem sshade_any[Inhabited ProtD]{B:Nat}{b:Nat}{x:Hp}{ar:Option Addr}{kr:Nat}{v4 v8:Value}{br bn:Nat}{cB cO:Nat→Nat}{pb:Nat→Nat}{pa:Nat→Option Addr}{pk:Nat→Nat}{kn hd:Nat}{vf:Value}{F:List Int}{vk:Value}{K:List Nat}{role:Nat→Nat}(i:Nat)(w:World)
  (h:SAt B w b x ar kr v4 v8 br cB cO bn pb pa pk kn hd vf F vk K role) (hi:i<x.cells.length) (hg:shadeB x i=true→x.gray.length<4000) (a:World) (ha:a.heap.size≤B) (hx:Ext a w) :
  Calls Tryz.prog 82 #[.pointer (some ⟨b,0,none⟩),ndp bn i] w fun e w'=>e=.returned (.tuple #[])∧Hid (SAt B w' b (shadeH x i) ar kr v4 v8 br cB cO bn pb pa pk kn hd vf F vk K role)∧Ext a w':=
 (sshade_fr i w h hi hg a ha hx).mono fun _ _ ⟨h1,h2,h3,_⟩=>⟨h1,h2,h3⟩
theorem rfirst_none(b bn hd:Nat)(w:World)(h:RAt w b bn hd []):
  Calls Tryz.prog 235 #[.pointer (some ⟨b,15,none⟩)] w fun e w'=>e=.returned (.pointer none)∧Ext w w':=by
 have r1:=h.r1;simp only [List.length_nil] at r1;clear h;go_enter Tryz.func235,Tryz.ntmps235;go_wp2_with fail;go_ret;exact⟨rfl,Ext.refl _⟩
theorem rfirst_some(b bn hd:Nat)(g:Int)(G:List Int)(w:World)(h:RAt w b bn hd (g::G)):
  Calls Tryz.prog 235 #[.pointer (some ⟨b,15,none⟩)] w fun e w'=>e=.returned (ndp bn g.toNat)∧Ext w w':=by
 have r0:=h.r0;have r1:=h.r1;have hl:=h.hl;have h0:=h.h0;have rg:=h.rg 0 (by simp);have e:(hd+0) % 4000=hd:=by omega
 rw[e] at rg;simp only [List.getElem_cons_zero] at rg;have c0:(((g::G).length:Nat):Int)=(G.length:Int)+1:=by simp
 rw[c0] at r1;have nz:(((G.length:Int)+1) == 0)=false:=by simp;omega
 have d0:(0:Int)≤(hd:Int):=by omega
 have d1:(hd:Int)<4000:=by omega
 clear h e c0 hl;go_enter Tryz.func235,Tryz.ntmps235;go_wp2_with fail;go_quiet (fail);go_wp2_with fail;go_ret;exact⟨rfl,(Ext.refl _).drewN _⟩
def fptr(bn:Nat)(y:Wd):Value:=if (y.k == 2)=true then ndp bn y.a.toNat else .pointer none
theorem wfollow_any[Inhabited ProtD]{B:Nat}{w:World}{b:Nat}{x:Hp}{ar:Option Addr}{kr:Nat}{v4 v8:Value}{br bn:Nat}{cB cO:Nat→Nat}{pb:Nat→Nat}{pa:Nat→Option Addr}{pk:Nat→Nat}{kn hd:Nat}{vf:Value}{F:List Int}{vk:Value}{K:List Nat}{role:Nat→Nat}(h:SAt B w b x ar kr v4 v8 br cB cO bn pb pa pk kn hd vf F vk K role)(r2:R2 x)(y:Wd)(hy:Good1 x y)(hf:Formed y x.cells.length):
  Calls Tryz.prog 123 #[.pointer (some ⟨b,0,none⟩),y.v] w fun e w'=>e=.returned (fptr bn y)∧Ext w w':=by
 unfold fptr;cases q:(y.k == 2)
 ·rw[if_neg (by simp)];exact follow_none y b w q
 ·rw[if_pos rfl];have hk:y.k=2:=by simpa using q
  have g:=hy hk;obtain⟨k,n,a⟩:=y;simp only at hk g;subst hk;unfold Formed at hf;simp only at hf;obtain⟨i,rfl⟩:∃i:Nat,a=(i:Int):=⟨a.toNat,by omega⟩;obtain rfl:n=0:=by omega
  have ei:((i:Int)).toNat=i:=by omega
  simp only [ei] at g ⊢;have L:lead x i=i:=by unfold lead;rw[if_neg (by rw[g.2];simp)]
  have:=sfollow_some h r2 i g.1;rw[L] at this;exact this
theorem sshade_nil(b:Nat)(w:World):Calls Tryz.prog 82 #[.pointer (some ⟨b,0,none⟩),.pointer none] w fun e w'=>e=.returned (.tuple #[])∧w'=w:=by
 go_enter Tryz.func82,Tryz.ntmps82;go_wp2_with fail
 try simp only [Exit.inBlock,Exit.then]
 refine bodyPost_ret (results_none rfl _ _ _) rfl ?_;exact⟨rfl,rfl⟩
theorem wshade_any[Inhabited ProtD]{B:Nat}{w:World}{b:Nat}{x:Hp}{ar:Option Addr}{kr:Nat}{v4 v8:Value}{br bn:Nat}{cB cO:Nat→Nat}{pb:Nat→Nat}{pa:Nat→Option Addr}{pk:Nat→Nat}{kn hd:Nat}{vf:Value}{F:List Int}{vk:Value}{K:List Nat}{role:Nat→Nat}(h:SAt B w b x ar kr v4 v8 br cB cO bn pb pa pk kn hd vf F vk K role)(y:Wd)(hy:Good1 x y)(gf:∀i,i<x.cells.length→shadeB x i=true→x.gray.length<4000)(a:World)(ha:a.heap.size≤B)(hx:Ext a w):
  Calls Tryz.prog 82 #[.pointer (some ⟨b,0,none⟩),fptr bn y] w fun e w'=>e=.returned (.tuple #[])∧Hid (SAt B w' b (shadeW x y) ar kr v4 v8 br cB cO bn pb pa pk kn hd vf F vk K role)∧Ext a w'∧Hid (∀q,q<w.heap.size→q≠b→(∀j,j<x.cells.length→q≠cB j)→w'.heap[q]?=w.heap[q]?):=by
 unfold fptr shadeW;cases q:(y.k == 2)
 ·rw[if_neg (by simp),if_neg (by simp)];refine(sshade_nil b w).mono ?_;rintro e w' ⟨rfl,rfl⟩;exact⟨rfl,h,hx,fun _ _ _ _=>rfl⟩
 ·rw[if_pos rfl,if_pos rfl];have hk:y.k=2:=by simpa using q
  have g:=(hy hk).1;refine(sshade_fr y.a.toNat w h g (gf _ g) a ha hx).mono ?_;rintro e w' ⟨h1,h2,h3,h4⟩;exact⟨h1,h2,h3,fun q hq hb hc=>unhide h4 q hq hb (hc _ g)⟩
def AddN(x:Hp)(y:Wd)(Mt Mt' St St':List Nat):Prop:=(y.k≠2∧Mt'=Mt∧St'=St)∨(y.k=2∧((tgt x y∈Mt∧Mt'=Mt∧St'=St)∨(¬tgt x y∈Mt∧Mt'=Mt++[tgt x y]∧St'=St++[tgt x y])))
theorem AddN.sub{x:Hp}{y:Wd}{Mt Mt' St St':List Nat}(h:AddN x y Mt Mt' St St'):(∀i,i∈Mt→i∈Mt')∧(∀i,i∈St→i∈St'):=by
 rcases h with⟨_,e,f⟩ | ⟨_,⟨_,e,f⟩ | ⟨_,e,f⟩⟩
 ·exact⟨fun i hi=>by rw[e];exact hi,fun i hi=>by rw[f];exact hi⟩
 ·exact⟨fun i hi=>by rw[e];exact hi,fun i hi=>by rw[f];exact hi⟩
 ·exact⟨fun i hi=>by rw[e];exact List.mem_append_left _ hi,fun i hi=>by rw[f];exact List.mem_append_left _ hi⟩
theorem AddN.new{x:Hp}{y:Wd}{Mt Mt' St St':List Nat}(h:AddN x y Mt Mt' St St'){i:Nat}(hi:i∈Mt'):i∈Mt∨(y.k=2∧i=tgt x y∧i∈St'):=by
 rcases h with⟨_,e,_⟩ | ⟨k,⟨_,e,_⟩ | ⟨_,e,f⟩⟩
 ·rw[e] at hi;exact .inl hi
 ·rw[e] at hi;exact .inl hi
 ·rw[e] at hi;rcases List.mem_append.1 hi with q | q
  ·exact .inl q
  ·have:i=tgt x y:=by simpa using q
   exact .inr ⟨k,this,by rw[f,this];simp⟩
def OnlyN(x:Hp)(Mt:List Nat):Prop:=∀i,i∈Mt→Reached x i
def RegsN(x:Hp)(k:Nat)(Mt:List Nat):Prop:=∀j (h:j<x.regs.length),j<k→x.regs[j].k=2→tgt x x.regs[j]∈Mt
theorem OnlyN.add{x:Hp}{y:Wd}{Mt Mt' St St':List Nat}(h:OnlyN x Mt)(a:AddN x y Mt Mt' St St')(hy:y.k=2→Reached x (tgt x y)):OnlyN x Mt':=fun i hi=>by
 rcases a.new hi with q | ⟨k,e,_⟩
 ·exact h i q
 ·rw[e];exact hy k
theorem WkAt.start(w:World)(bv bn on n:Nat)(t:TypeId):WkAt (((w.alloc (.map #[] 0)).alloc (.map #[] 0)).alloc (.cells #[.pointer (some ⟨bv,0,none⟩),.map (some w.heap.size),.slice none 0 0,.map (some (w.heap.size+1))] t)) w.heap.size (w.heap.size+2) bv w.heap.size bn on n (.slice none 0 0) [] []:=by
 have hm:(((w.alloc (.map #[] 0)).alloc (.map #[] 0)).alloc (.cells #[.pointer (some ⟨bv,0,none⟩),.map (some w.heap.size),.slice none 0 0,.map (some (w.heap.size+1))] t)).heap[w.heap.size]?=some (.map #[] 0):=by
  rw[Below.heap_alloc _ _ _ (by simp;omega),Below.heap_alloc _ _ _ (by simp)];exact heap_alloc_new w _
 refine⟨by simp [go_sem],by simp [go_sem],by simp [go_sem],by simp [go_sem],⟨#[],0,hm,by simp [KeysAre]⟩,World.ownsRow_nil _ _ _ _,by simp [Value.ownBlock],by simp [Value.ownBlock],by omega,by omega,Nat.le_refl _,fun i hi=>hi,List.nodup_nil,List.nodup_nil,fun i hi=>by cases hi⟩
def SpAt(w:World)(g:Option Addr)(bw r1:Nat)(v:Value)(bn on:Nat)(Ls:List Nat):Prop:=∀k (h:k<Ls.length),∃gb go,g=some ⟨gb,go,none⟩∧w.cell? ⟨gb,go+k,none⟩=some (ptr bn (on+Ls[k]*2))∧gb≠bw∧gb≠r1∧v.ownBlock≠some gb
theorem SpAt.ext{w w':World}{g:Option Addr}{bw r1:Nat}{v:Value}{bn on:Nat}{Ls:List Nat}(h:SpAt w g bw r1 v bn on Ls)(e:Ext w w'):SpAt w' g bw r1 v bn on Ls:=fun k hk=>by
 obtain⟨gb,go,a,c,d⟩:=h k hk;exact⟨gb,go,a,e.keep c,d⟩
theorem SpAt.step{w w':World}{g:Option Addr}{bw r1:Nat}{v v':Value}{bn on:Nat}{Ls:List Nat}(h:SpAt w g bw r1 v bn on Ls)(f:KFr bw r1 v v' w w'):SpAt w' g bw r1 v' bn on Ls:=fun k hk=>by
 obtain⟨gb,go,a,c,d1,d2,d3⟩:=h k hk;have hl:gb<w.heap.size:=cell_lt c;refine⟨gb,go,a,(World.cell?_of_block (a:=⟨gb,go+k,none⟩) (f.block gb hl d1 d2 d3)).trans c,d1,d2,fun e=>?_⟩;rcases f.own with q | ⟨y,q,hy⟩
 ·rw[q] at e;exact d3 e
 ·rw[q] at e;cases e;omega
def SpAns(x:Hp)(w w':World)(g:Option Addr)(bn on:Nat)(Ls:List Nat):Prop:=(∀k (h:k<Ls.length),∃gb go,g=some ⟨gb,go,none⟩∧w'.cell? ⟨gb,go+k,none⟩=some (ptr bn (on+Ls[k]*2))∧w.heap.size≤gb)∧Ls.length≤8000∧(∀i,i∈Ls↔i<x.cells.length∧Speaks (x.c i))
theorem SpAns.at{x:Hp}{w w':World}{g:Option Addr}{base bw bv r1 bn on:Nat}{v:Value}{Mt St Ls:List Nat}(h:SpAns x w w' g bn on Ls)(k:WkAt w base bw bv r1 bn on x.cells.length v Mt St):SpAt w' g bw r1 v bn on Ls:=fun i hi=>by
 obtain⟨gb,go,a,c,d⟩:=h.1 i hi;have:=k.rlt;exact⟨gb,go,a,c,by omega,by omega,fun e=>by have:=(k.s.lt gb e).2;omega⟩
def LastN(x:Hp)(Mt:List Nat):Prop:=∀i,i<x.cells.length→Speaks (x.c i)→i∈Mt
def ClosedToN(x:Hp)(Mt:List Nat)(i l:Nat):Prop:=∀p,p<(x.c i).prs.length→p<l→(((x.c i).p p).key.k=2→tgt x ((x.c i).p p).key∈Mt)∧(((x.c i).p p).val.k=2→tgt x ((x.c i).p p).val∈Mt)
def ClosedN(x:Hp)(Mt:List Nat)(i:Nat):Prop:=ClosedToN x Mt i (x.c i).prs.length
theorem ClosedToN.sub{x:Hp}{Mt Mt':List Nat}{i l:Nat}(h:ClosedToN x Mt i l)(s:∀i,i∈Mt→i∈Mt'):ClosedToN x Mt' i l:=fun p h1 h2=>⟨fun e=>s _ ((h p h1 h2).1 e),fun e=>s _ ((h p h1 h2).2 e)⟩
structure InvR(x:Hp)(Mt St:List Nat)(cur:Option Nat):Prop where
 only:OnlyN x Mt
 regs:RegsN x x.regs.length Mt
 last:LastN x Mt
 part:∀i,i∈Mt→i∈St∨cur=some i∨ClosedN x Mt i
theorem InvR.add{x:Hp}{y:Wd}{Mt Mt' St St':List Nat}{cur:Option Nat}(h:InvR x Mt St cur)(a:AddN x y Mt Mt' St St')(hy:y.k=2→Reached x (tgt x y)):InvR x Mt' St' cur:=
 ⟨h.only.add a hy,fun j hj hjk e=>a.sub.1 _ (h.regs j hj hjk e),fun i hi hs=>a.sub.1 _ (h.last i hi hs),fun i hi=>by
  rcases a.new hi with q | ⟨_,_,q⟩
  ·rcases h.part i q with r | r | r
   ·exact .inl (a.sub.2 i r)
   ·exact .inr (.inl r)
   ·exact .inr (.inr (r.sub a.sub.1))
  ·exact .inl q⟩
theorem InvR.take{x:Hp}{Mt St:List Nat}{j:Nat}(h:InvR x Mt (St++[j]) none):InvR x Mt St (some j):=
 ⟨h.only,h.regs,h.last,fun i hi=>by
  rcases h.part i hi with r | r | r
  ·rcases List.mem_append.1 r with q | q
   ·exact .inl q
   ·simp at q;exact .inr (.inl (by rw[q]))
  ·cases r
  ·exact .inr (.inr r)⟩
theorem cs_set(L:List Cl)(i q:Nat)(c:Cl):(L.set i c).getD q Cl0=if q=i∧i<L.length then c else L.getD q Cl0:=by
 simp only [List.getD_eq_getElem?_getD,List.getElem?_set];by_cases e:i=q
 ·subst e;by_cases l:i<L.length
  ·simp [l]
  ·simp [l]
 ·simp [e,Ne.symm e]
theorem lead2_un{x y:Hp}(hc:∀q,(y.c q).un=(x.c q).un)(i:Nat):lead2 y i=lead2 x i:=by
 unfold lead2;rw[(un_parts (hc i)).1,(un_parts (hc i)).2.2.2.2.2.1]
theorem tgt_un{x y:Hp}(hc:∀q,(y.c q).un=(x.c q).un)(u:Wd):tgt y u=tgt x u:=lead2_un hc _
theorem ovr_un{x y:Hp}(hr:y.regs=x.regs)(hl:y.cells.length=x.cells.length)(hc:∀q,(y.c q).un=(x.c q).un)(hb:∀j,Good y j→Good x j):Ovr x y (fun i=>i) where
 rl:=by rw[hr]
 rg:=fun k h h'=>by
  have e:y.regs[k]=x.regs[k]:=by simp only [hr]
  rw[e];exact⟨rfl,fun _=>tgt_un hc _⟩
 g:=fun i gi=>by
  have u:=un_parts (hc i);exact⟨by rw[u.1];exact gi.2.1,by rw[hl];exact gi.1,u.2.2.2.1,by rw[u.2.2.2.2.2.2]⟩
 ky:=fun i p gi hp=>by rw[un_p hc];exact⟨rfl,fun _=>tgt_un hc _⟩
 vl:=fun i p gi hp=>by rw[un_p hc];exact⟨rfl,fun _=>tgt_un hc _⟩
 b:=fun j gj=>⟨j,hb j gj,rfl⟩
 wk:=fun i _=>(un_parts (hc i)).2.2.1
 ij:=fun _ _ _ _ h=>h
 kb:=fun i _=>⟨(un_parts (hc i)).2.1,(un_parts (hc i)).2.2.2.2.1⟩
 rn:=fun k h h' _=>by simp only [hr]
 pn:=fun i p gi hp=>by rw[un_p hc];exact⟨fun _=>rfl,fun _=>rfl⟩
theorem good_st{x y:Hp}(hl:y.cells.length=x.cells.length)(hc:∀q,(y.c q).un=(x.c q).un)(hp:x.phase≠3){j:Nat}(g:Good y j):Good x j:=
 ⟨by rw[←hl];exact g.1,by rw[←(un_parts (hc j)).1];exact g.2.1,fun d=>hp d.1⟩
theorem ovr_turn{x:Hp}(hp:x.phase≠3)(p h s r:Int):Ovr x { x with phase:=p,hand:=h,sub:=s,rounds:=r } (fun i=>i):=
 ovr_un rfl rfl (fun _=>rfl) (fun _ g=>good_st (x:=x) (y:={ x with phase:=p,hand:=h,sub:=s,rounds:=r }) rfl (fun _=>rfl) hp g)
def Col(x:Hp):Prop:=∀i,i<x.cells.length→(x.c i).color≠0→Reached x i
theorem reach_un{x y:Hp}(hr:y.regs=x.regs)(hl:y.cells.length=x.cells.length)(hc:∀q,(y.c q).un=(x.c q).un){i:Nat}(h:Reached x i):Reached y i:=by
 refine h (Reached y) (fun k hk e=>?_) (fun i hi hs sp=>?_) (fun j p hj hp e=>?_) (fun j p hj hp e=>?_)
 ·have h':k<y.regs.length:=by rw[hr];exact hk
  have e1:y.regs[k]=x.regs[k]:=by simp only [hr]
  rw[←tgt_un hc,←e1];exact Reached.reg k h' (by rw[e1];exact e)
 ·have u:=un_parts (hc i);exact Reached.last i (by rw[hl];exact hi) (by rw[u.1];exact hs) (by unfold Speaks at sp ⊢;rw[u.2.2.2.1];exact sp)
 ·rw[←tgt_un hc,←un_p hc];exact Reached.key j p hj (by rw[un_prs hc];exact hp) (by rw[un_p hc];exact e)
 ·rw[←tgt_un hc,←un_p hc];exact Reached.val j p hj (by rw[un_prs hc];exact hp) (by rw[un_p hc];exact e)
theorem Col.shade{x:Hp}(c:Col x)(i:Nat)(hi:i<x.cells.length)(r:Reached x i):Col (shadeH x i):=fun q hq hc=>by
 obtain⟨_,_,_,hr,hl,_⟩:=shade_same x i;rw[hl] at hq;refine reach_un hr hl (shade_un x i hi) ?_;rw[shade_c x i hi] at hc;by_cases e:shadeB x i=true∧q=i
 ·rw[e.2];exact r
 ·rw[if_neg e] at hc;exact c q hq hc
theorem Col.shadeW{x:Hp}(c:Col x)(y:Wd)(hy:Good1 x y)(r:y.k=2→Reached x y.a.toNat):Col (shadeW x y):=by
 unfold Go.Proofs.YtddkhnclmeikfaaGreat.shadeW
 split
 ·rename_i e;have e2:y.k=2:=by simpa using e
  exact c.shade _ (hy e2).1 (r e2)
 ·exact c
theorem Col.fold{x:Hp}(hm:Marking x):∀(ys:List Wd) (z:Hp),(∀y,y∈ys→Good1 x y∧(y.k=2→Reached x y.a.toNat))→Shd x z→Col z→Col (ys.foldl Go.Proofs.YtddkhnclmeikfaaGreat.shadeW z)
 | [],_,_,_,c=>c
 | y::ys,z,h,sh,c=>by
  have h1:=h y (by simp);rw[List.foldl_cons];exact Col.fold hm ys _ (fun u hu=>h u (by simp [hu])) (sh.step y h1.1).1 (c.shadeW y (h1.1.keep sh.len sh.un) (fun e=>reach_un sh.regs sh.len sh.un (h1.2 e)))
theorem Col.same{x y:Hp}(c:Col x)(hr:y.regs=x.regs)(hl:y.cells.length=x.cells.length)(hc:∀q,(y.c q).un=(x.c q).un)(hk:∀q,(y.c q).color≠0→(x.c q).color≠0):Col y:=fun q hq h=>reach_un hr hl hc (c q (by rw[←hl];exact hq) (hk q h))
theorem tgt_mark{x:Hp}(s:Snd x)(hp:x.phase<4){y:Wd}(hy:Good1 x y)(hk:y.k=2):tgt x y=y.a.toNat:=by
 unfold tgt lead2;rw[if_neg (by simp;exact s.nomoved hp _ (hy hk).1)]
def sm(F:Cl→Nat)(cs:List Cl):Nat:=(cs.map F).sum
theorem sm_set(F:Cl→Nat)(cs:List Cl)(i:Nat)(c:Cl)(hi:i<cs.length):sm F (cs.set i c)+F cs[i]=sm F cs+F c:=by
 induction cs generalizing i with
 | nil=>simp at hi
 | cons a cs ih=>
  cases i with
  | zero=>simp [sm];omega
  | succ i=>
   have:=ih i (by simpa using hi);simp [sm] at this ⊢;omega
theorem sm_le(F:Cl→Nat)(b:Nat):∀(cs:List Cl),(∀c,c∈cs→F c≤b)→sm F cs≤b*cs.length
 | [],_=>by simp [sm]
 | c::cs,h=>by
  have h1:=sm_le F b cs (fun d hd=>h d (by simp [hd]));have h2:=h c (by simp);simp only [sm,List.map_cons,List.sum_cons,List.length_cons,Nat.mul_add] at h1 ⊢;omega
theorem sm_drop(F:Cl→Nat)(cs:List Cl)(i:Nat)(hi:i<cs.length):sm F (cs.drop i)=F cs[i]+sm F (cs.drop (i+1)):=by
 rw[List.drop_eq_getElem_cons hi];simp only [sm,List.map_cons,List.sum_cons]
theorem sm_drop_set(F:Cl→Nat)(cs:List Cl)(i k:Nat)(c:Cl)(hi:i<cs.length)(h:F c=F cs[i]):sm F ((cs.set i c).drop k)=sm F (cs.drop k):=by
 have e:(cs.set i c).map F=cs.map F:=by
  refine List.ext_getElem (by simp) (fun j h1 h2=>?_);simp only [List.getElem_map,List.getElem_set]
  split
  ·rename_i q;subst q;exact h
  ·rfl
 simp only [sm,List.map_drop,e]
def D2(c:Cl):Nat:=if c.st=1∧c.color≠2 then c.prs.length+2+(if c.color=0 then 1 else 0) else 0
def D4(c:Cl):Nat:=if c.st=0 then 1 else 0
def D5(c:Cl):Nat:=c.prs.length+1
def part(x:Hp):Nat:=
 if x.phase=2 then sm D2 x.cells-x.sub.toNat else if x.phase=4 then sm D4 x.cells else if x.phase=5 then sm D5 (x.cells.drop x.hand.toNat)-x.sub.toNat else if x.phase=6 then x.hand.toNat else ((x.cells.length:Int)-x.hand).toNat
def mu(x:Hp):Nat:=if x.phase=0 then 0 else (6-x.phase).toNat*2000000+part x+1
theorem Snd.pbound{x:Hp}(h:Snd x):part x<2000000:=by
 have n8:=h.ok.n8
 have p2:∀c,c∈x.cells→c.prs.length≤200:=fun c hc=>by
  obtain⟨i,hi,e⟩:=List.getElem_of_mem hc;have:=h.ok.p200 i hi;rw[←e,Hp.c_eq x i hi];exact this
 have hh:=h.r1.hand;unfold part
 split
 ·have:=sm_le D2 203 x.cells (fun c hc=>by have:=p2 c hc;unfold D2;split <;> (try split) <;> omega);omega
 split
 ·have:=sm_le D4 1 x.cells (fun c hc=>by unfold D4;split <;> omega);omega
 split
 ·have:=sm_le D5 201 (x.cells.drop x.hand.toNat) (fun c hc=>by have:=p2 c (List.mem_of_mem_drop hc);unfold D5;omega);simp only [List.length_drop] at this;omega
 split <;> omega
theorem Snd.mu_le{x:Hp}(h:Snd x):mu x≤14000000:=by
 have hp:=h.pbound;have:=h.r1.phase;unfold mu;split <;> omega
theorem mu_same{x y:Hp}(hp:y.phase=x.phase)(h0:x.phase≠0)(hl:part y<part x):mu y<mu x:=by
 unfold mu;rw[hp,if_neg h0,if_neg h0];omega
theorem mu_next{x y:Hp}(s:Snd y)(hp:y.phase=x.phase+1)(h1:1≤x.phase∧x.phase≤5):mu y<mu x:=by
 have:=s.pbound;unfold mu;rw[if_neg (by omega),if_neg (by omega),hp];omega
theorem shade_sum(x:Hp)(i:Nat)(hi:i<x.cells.length):sm D2 (shadeH x i).cells+(shadeH x i).gray.length=sm D2 x.cells+x.gray.length:=by
 unfold shadeH;by_cases hb:shadeB x i=true
 ·rw[if_pos hb];have hp:=(shadeB_parts hb).2;have:=sm_set D2 x.cells i (grayC (x.c i)) hi;have e1:D2 (grayC (x.c i))=(x.c i).prs.length+2:=by simp [D2,grayC,hp.1]
  have e2:D2 (x.c i)=(x.c i).prs.length+3:=by simp [D2,hp.1,hp.2]
  rw[Hp.c_eq x i hi,e1,e2] at this;simp only [List.length_append,List.length_singleton];omega
 ·rw[if_neg hb]
theorem shadeW_sum(x:Hp)(y:Wd)(hy:Good1 x y):sm D2 (shadeW x y).cells+(shadeW x y).gray.length=sm D2 x.cells+x.gray.length:=by
 unfold shadeW
 split
 ·rename_i e;exact shade_sum x _ (hy (by simpa using e)).1
 ·rfl
theorem fold_sum:∀(ys:List Wd) (z:Hp),(∀y,y∈ys→Good1 z y)→sm D2 (ys.foldl shadeW z).cells+(ys.foldl shadeW z).gray.length=sm D2 z.cells+z.gray.length
 | [],_,_=>rfl
 | y::ys,z,h=>by
  have h1:=h y (by simp);rw[List.foldl_cons,fold_sum ys (shadeW z y) (fun u hu=>(h u (by simp [hu])).keep (shadeW_same z y).2.1 (shadeW_un z y h1)),shadeW_sum z y h1]
theorem shadeW_gle(x:Hp)(y:Wd):x.gray.length≤(shadeW x y).gray.length:=by
 obtain⟨L,e⟩:=shadeW_gray x y;rw[e];simp
theorem Snd.less{x:Hp}(h:Snd x)(h0:x.phase≠0):mu (unitH x)<mu x:=by
 have hr:=h.r1.phase;have hh:=h.r1.hand;have hs:=h.r1.sub;by_cases p1:x.phase=1
 ·have s:=h.u1 p1;rw[show unitH x=unit1 x by unfold unitH;rw[if_pos p1]];unfold unit1 at s ⊢
  split
  ·rename_i e;rw[if_pos e] at s;exact mu_next s (by show(2:Int)=x.phase+1;omega) ⟨by omega,by omega⟩
  ·rename_i e;have hin:x.hand.toNat<x.cells.length:=by omega
   have q:=shade_same x x.hand.toNat;refine mu_same ?_ h0 ?_
   ·show(if spkB (x.c x.hand.toNat)=true then shadeH x x.hand.toNat else x).phase=x.phase
    split
    ·exact q.2.2.2.2.2.1
    ·rfl
   ·have e1:∀z:Hp,z.phase=1→part z=((z.cells.length:Int)-z.hand).toNat:=fun z hz=>by
     unfold part;rw[if_neg (by omega),if_neg (by omega),if_neg (by omega),if_neg (by omega)]
    by_cases hk:spkB (x.c x.hand.toNat)=true
    ·rw[if_pos hk,e1 x p1,e1 _ (by show(shadeH x x.hand.toNat).phase=1;rw[q.2.2.2.2.2.1];exact p1)];show(((shadeH x x.hand.toNat).cells.length:Int)-(x.hand+1)).toNat<_;rw[q.2.2.2.2.1];omega
    ·rw[if_neg hk,e1 x p1];refine Nat.lt_of_le_of_lt (Nat.le_of_eq (e1 _ ?_)) ?_
     ·exact p1
     show((x.cells.length:Int)-(x.hand+1)).toNat<_;omega
 by_cases p2:x.phase=2
 ·have s:=h.u2 p2;have h6:=h.r6.2.1 p2
  have e2:∀z:Hp,z.phase=2→part z=sm D2 z.cells-z.sub.toNat:=fun z hz=>by
   unfold part;rw[if_pos hz]
  rw[show unitH x=unit2 x by unfold unitH;rw[if_neg p1,if_pos p2]];cases hg:x.gray with
  | cons g G=>
   have hl:=h6.2.2 (by rw[hg];simp);have eg:x.g0=g.toNat:=by simp [Hp.g0,hg]
   rw[eg] at hl
   have hgin:∃i:Nat,g=(i:Int)∧i<x.cells.length∧(x.c i).st=1∧(x.c i).color=1:=by
    have hgm:g∈x.gray:=by rw[hg];exact List.mem_cons_self ..
    have hu:=gray_used h.r2 h.r5 g hgm;have hgr:=h.r5.2.2 g hgm;refine⟨g.toNat,by omega,by omega,hu.2,hu.1⟩
   obtain⟨i,rfl,hi,hst,hco⟩:=hgin;have et:((i:Int)).toNat=i:=by omega
   rw[et] at hl;have d2:D2 (x.c i)=(x.c i).prs.length+2:=by simp [D2,hst,hco]
   have big:D2 (x.c i)≤sm D2 x.cells:=by
    have:=sm_set D2 x.cells i Cl0 hi;have z0:D2 Cl0=0:=by simp [D2,Cl0]
    rw[Hp.c_eq x i hi,z0] at this;omega
   unfold unit2;rw[hg];simp only [et];by_cases hlt:x.sub<(x.c i).prs.length
   ·rw[if_pos hlt];have gp:=h.good_pair (.inr p2) i x.sub.toNat hi (by omega);have w1:=shadeW_same x ((x.c i).p x.sub.toNat).key;have gk:=gp.2.keep w1.2.1 (shadeW_un x _ gp.1);have w2:=shadeW_same (shadeW x ((x.c i).p x.sub.toNat).key) ((x.c i).p x.sub.toNat).val;have s1:=shadeW_sum x _ gp.1;have s2:=shadeW_sum _ _ gk;have g1:=shadeW_gle x ((x.c i).p x.sub.toNat).key;have g2:=shadeW_gle (shadeW x ((x.c i).p x.sub.toNat).key) ((x.c i).p x.sub.toNat).val;have ph:(shadeW (shadeW x ((x.c i).p x.sub.toNat).key) ((x.c i).p x.sub.toNat).val).phase=x.phase:=by rw[w2.2.2.1,w1.2.2.1]
    refine mu_same ph h0 ?_;rw[e2 x p2,e2 _ (by show(shadeW (shadeW x ((x.c i).p x.sub.toNat).key) ((x.c i).p x.sub.toNat).val).phase=2;rw[ph];exact p2)];show sm D2 (shadeW (shadeW x ((x.c i).p x.sub.toNat).key) ((x.c i).p x.sub.toNat).val).cells-(x.sub+1).toNat<_;omega
   ·rw[if_neg hlt];refine mu_same rfl h0 ?_;rw[e2 x p2];refine Nat.lt_of_le_of_lt (Nat.le_of_eq (e2 _ ?_)) ?_
    ·exact p2
    show sm D2 (x.cells.set i (blackC (x.c i)))-(0:Int).toNat<_;have:=sm_set D2 x.cells i (blackC (x.c i)) hi;have z0:D2 (blackC (x.c i))=0:=by simp [D2,blackC]
    rw[Hp.c_eq x i hi,z0] at this;omega
  | nil=>
   have lk:=(h.look p2).1;have h60:=h6.2.1 (by rw[hg];rfl);unfold unit2 at s ⊢;rw[hg] at s ⊢;simp only at s ⊢;by_cases hq:(lookH x).gray=[]
   ·rw[if_pos hq] at s ⊢;exact mu_next s (by show(3:Int)=x.phase+1;omega) ⟨by omega,by omega⟩
   ·rw[if_neg hq];refine mu_same lk.phase h0 ?_;rw[e2 x p2,e2 _ (by rw[lk.phase];exact p2),lk.sub,h60]
    have fs:=fold_sum x.regs x (fun y hy=>by
     obtain⟨i,hi,e⟩:=List.getElem_of_mem hy;rw[←e];exact h.good_reg i hi)
    have fs2:sm D2 (lookH x).cells+(lookH x).gray.length=sm D2 x.cells+x.gray.length:=fs;have:(lookH x).gray.length≠0:=fun e=>hq (List.eq_nil_of_length_eq_zero e)
    rw[hg] at fs2;simp only [List.length_nil] at fs2;simp only [Int.toNat_zero];omega
 by_cases p3:x.phase=3
 ·have s:=h.u3 p3
  have e3:∀z:Hp,z.phase=3→part z=((z.cells.length:Int)-z.hand).toNat:=fun z hz=>by
   unfold part;rw[if_neg (by omega),if_neg (by omega),if_neg (by omega),if_neg (by omega)]
  rw[show unitH x=unit3 x by unfold unitH;rw[if_neg p1,if_neg p2,if_pos p3]];unfold unit3 at s ⊢
  split
  ·rename_i e;rw[if_pos e] at s;exact mu_next s (by show(4:Int)=x.phase+1;omega) ⟨by omega,by omega⟩
  ·split
   all_goals
    refine mu_same (by rfl) h0 ?_;rw[e3 x p3];refine Nat.lt_of_le_of_lt (Nat.le_of_eq (e3 _ ?_)) ?_
    ·exact p3
    simp only [List.length_set];omega
 by_cases p4:x.phase=4
 ·have s:=h.u4 p4
  have e4:∀z:Hp,z.phase=4→part z=sm D4 z.cells:=fun z hz=>by
   unfold part;rw[if_neg (by omega),if_pos hz]
  rw[show unitH x=unit4 x by unfold unitH;rw[if_neg p1,if_neg p2,if_neg p3,if_pos p4]];unfold unit4 at s ⊢
  split
  ·rename_i e;rw[if_pos e] at s;exact mu_next s (by show(5:Int)=x.phase+1;omega) ⟨by omega,by omega⟩
  ·rename_i e;have ff:=fstFree_is x;rcases lstUsed_is x x.cells.length with⟨q,_⟩ | ⟨f,q,hf,hst,_⟩
   ·omega
   ·rw[q] at e ⊢;have ef:((f:Int)).toNat=f:=by omega
    rw[ef];obtain⟨t,ht⟩:∃t,t=fstFree x:=⟨_,rfl⟩;rw[←ht] at ff e ⊢;have htf:t<f:=by omega
    have ht0:=ff.2.2 (by omega);refine mu_same rfl h0 ?_;rw[e4 x p4];refine Nat.lt_of_le_of_lt (Nat.le_of_eq (e4 _ ?_)) ?_
    ·exact p4
    show sm D4 ((x.cells.set t (x.c f)).set f (mvC t))<_;have a1:=sm_set D4 x.cells t (x.c f) (by omega);have a2:=sm_set D4 (x.cells.set t (x.c f)) f (mvC t) (by rw[List.length_set];exact hf)
    have a3:(x.cells.set t (x.c f))[f]'(by rw[List.length_set];exact hf)=x.c f:=by
     rw[List.getElem_set,if_neg (by omega),Hp.c_eq]
    rw[a3] at a2;rw[Hp.c_eq x t (by omega)] at a1;have b1:D4 (x.c f)=0:=by simp [D4,hst]
    have b2:D4 (mvC t)=0:=by simp [D4,mvC]
    have b3:D4 (x.c t)=1:=by simp [D4,ht0]
    omega
 by_cases p5:x.phase=5
 ·have s:=h.u5 p5;have h6:=h.r6.2.2.1 p5
  have e5:∀z:Hp,z.phase=5→part z=sm D5 (z.cells.drop z.hand.toNat)-z.sub.toNat:=fun z hz=>by
   unfold part;rw[if_neg (by omega),if_neg (by omega),if_pos hz]
  rw[show unitH x=unit5 x by unfold unitH;rw[if_neg p1,if_neg p2,if_neg p3,if_neg p4,if_pos p5]];unfold unit5 at s ⊢
  split
  ·rename_i e;rw[if_pos e] at s;exact mu_next s (by show(6:Int)=x.phase+1;omega) ⟨by omega,by omega⟩
  ·rename_i e;obtain⟨i,hi⟩:∃i:Nat,x.hand=(i:Int):=⟨x.hand.toNat,by omega⟩;have hin:i<x.cells.length:=by omega
   have ei:x.hand.toNat=i:=by omega
   rw[ei] at h6 ⊢
   have hsub:x.sub≤(x.c i).prs.length:=by
    by_cases hst:(x.c i).st=1
    ·exact h6.2 ⟨e,hst⟩
    ·have:=h6.1 (.inr hst);omega
   have dr:=sm_drop D5 x.cells i hin;have d5:D5 x.cells[i]=(x.c i).prs.length+1:=by rw[Hp.c_eq x i hin];rfl
   split
   ·refine mu_same rfl h0 ?_;rw[e5 x p5];refine Nat.lt_of_le_of_lt (Nat.le_of_eq (e5 _ ?_)) ?_
    ·exact p5
    show sm D5 ((x.cells.set i (mendC x (x.c i) x.sub.toNat)).drop x.hand.toNat)-(x.sub+1).toNat<_;rw[sm_drop_set D5 x.cells i _ _ hin (by rw[Hp.c_eq x i hin];simp [D5,mendC]),ei];omega
   ·refine mu_same rfl h0 ?_;rw[e5 x p5];refine Nat.lt_of_le_of_lt (Nat.le_of_eq (e5 _ ?_)) ?_
    ·exact p5
    show sm D5 (x.cells.drop (x.hand+1).toNat)-(0:Int).toNat<_;rw[show(x.hand+1).toNat=i+1 by omega,ei];omega
 ·have p6:x.phase=6:=by omega
  have e6:∀z:Hp,z.phase=6→part z=z.hand.toNat:=fun z hz=>by
   unfold part;rw[if_neg (by omega),if_neg (by omega),if_neg (by omega),if_pos hz]
  rw[show unitH x=unit6 x by unfold unitH;rw[if_neg p1,if_neg p2,if_neg p3,if_neg p4,if_neg p5,if_pos p6]];unfold unit6
  split
  ·show(if (0:Int)=0 then 0 else _)<mu x;rw[if_pos rfl];unfold mu;rw[if_neg h0];omega
  ·rename_i e;obtain⟨i,hi⟩:∃i:Nat,i=(x.hand-1).toNat:=⟨_,rfl⟩;rw[←hi]
   have k:(dropH (shutH x i) i).phase=x.phase∧(dropH (shutH x i) i).hand=(i:Int):=by
    unfold dropH;split <;> exact⟨rfl,rfl⟩
   refine mu_same k.1 h0 ?_;rw[e6 x p6,e6 _ (by rw[k.1];exact p6),k.2];omega
theorem Snd.moved_to{x:Hp}(s:Snd x){i:Nat}(hi:i<x.cells.length)(h:(x.c i).st=2):0≤(x.c i).to∧(x.c i).to<i∧(x.c (x.c i).to.toNat).st=1∧(x.phase=4→∀k:Nat,(k:Int)<(x.c i).to→(x.c k).st≠0):=by
 rcases s.r2.1 i hi with⟨e,_⟩ | ⟨_,m⟩ | ⟨e,_⟩
 ·omega
 ·exact⟨m.2.2.1,m.2.2.2.1,m.2.2.2.2⟩
 ·omega
theorem lead_no{x:Hp}{i:Nat}(h:(x.c i).st≠2):lead2 x i=i:=by unfold lead2;rw[if_neg (by simpa using h)]
theorem lead_yes{x:Hp}{i:Nat}(h:(x.c i).st=2):lead2 x i=(x.c i).to.toNat:=by unfold lead2;rw[if_pos (by simpa using h)]
theorem move_c{x:Hp}(t f:Nat)(htf:t<f)(hf:f<x.cells.length)(q:Nat):(moveH x t f).c q=if q=f then mvC t else if q=t then x.c f else x.c q:=by
 show((x.cells.set t (x.c f)).set f (mvC t)).getD q Cl0=_;rw[cs_set,cs_set,List.length_set];by_cases a:q=f
 ·rw[if_pos a,if_pos ⟨a,hf⟩]
 ·rw[if_neg a,if_neg (fun h=>a h.1)];by_cases b:q=t
  ·rw[if_pos b,if_pos ⟨b,by omega⟩]
  ·rw[if_neg b,if_neg (fun h=>b h.1)];rfl
theorem Snd.o4m{x:Hp}(s:Snd x)(hp:x.phase=4)(t f:Nat)(htf:t<f)(hf:f<x.cells.length)(h0:(x.c t).st=0)(h1:(x.c f).st=1):Ovr x (moveH x t f) (fun i=>if i=f then t else i):=by
 have hc:=move_c (x:=x) t f htf hf;have nd:∀q,¬Doomed x q:=fun q d=>by have:=d.1;omega
 have ct:(moveH x t f).c t=x.c f:=by rw[hc,if_neg (by omega),if_pos rfl]
 have cf:(moveH x t f).c f=mvC t:=by rw[hc,if_pos rfl]
 have co:∀q,q≠f→q≠t→(moveH x t f).c q=x.c q:=fun q a b=>by rw[hc,if_neg a,if_neg b]
 have sw:∀y:Wd,y.k=2→MayMark x y→tgt (moveH x t f) y=if tgt x y=f then t else tgt x y:=fun y hk my=>by
  obtain⟨_,a0,a1,_,gd⟩:=my hk;have gs:=gd.2.1;unfold tgt at gs ⊢;by_cases a:y.a.toNat=f
  ·rw[a,lead_yes (by rw[cf];rfl),cf,lead_no (by rw[h1];omega),if_pos rfl];simp [mvC]
  ·by_cases b:y.a.toNat=t
   ·rw[b,lead_no (by rw[h0];omega),h0] at gs;omega
   ·by_cases e:(x.c y.a.toNat).st=2
    ·have m:=s.moved_to (by omega) e;rw[lead_yes (by rw[co _ a b];exact e),co _ a b,lead_yes e,if_neg (fun h=>m.2.2.2 hp t (by omega) h0)]
    ·rw[lead_no (by rw[co _ a b];exact e),lead_no e,if_neg a]
 have rw1:∀k (h:k<x.regs.length) (h':k<(moveH x t f).regs.length),(moveH x t f).regs[k]=mvW t f x.regs[k]:=fun k h h'=>by simp [moveH]
 have ci:∀i,Good x i→(moveH x t f).c (if i=f then t else i)=x.c i:=fun i gi=>by
  by_cases e:i=f
  ·rw[if_pos e,ct,e]
  ·rw[if_neg e,co i e (fun h=>by have:=gi.2.1;rw[h,h0] at this;omega)]
 refine⟨by simp [moveH],fun k h h'=>?_,fun i gi=>?_,fun i p gi hp=>?_,fun i p gi hp=>?_,fun j gj=>?_,fun i gi=>by rw[ci i gi],fun i j gi gj e=>?_,fun i gi=>by rw[ci i gi];exact⟨rfl,rfl⟩,fun k h h' e=>by rw[rw1 k h h'];unfold mvW;rw[if_neg (fun z=>e z.1)],fun i p gi hp=>by rw[ci i gi];exact⟨fun _=>rfl,fun _=>rfl⟩⟩
 ·rw[rw1 k h h'];have ld:=s.r4.1 k h;unfold mvW;by_cases e:x.regs[k].k=2∧x.regs[k].a=(f:Int)
  ·rw[if_pos e];refine⟨e.1.symm,fun _=>?_⟩;have e2:x.regs[k].a.toNat=f:=by rw[e.2];simp
   unfold tgt;rw[e2,lead_no (x:=x) (by rw[h1];omega),if_pos rfl];show lead2 (moveH x t f) (t:Int).toNat=t;rw[Int.toNat_natCast,lead_no (by rw[ct,h1];omega)]
  ·rw[if_neg e];exact⟨rfl,fun hk=>sw _ hk (may_reg s.r2 s.r4 k h)⟩
 ·rw[ci i gi];refine⟨gi.2.1,?_,rfl,rfl⟩;have:=gi.1;simp only [moveH,List.length_set]
  split <;> omega
 ·rw[ci i gi];exact⟨rfl,fun e=>sw _ e (may_pair s.r2 s.r4 i p gi hp).1⟩
 ·rw[ci i gi];exact⟨rfl,fun e=>sw _ e (may_pair s.r2 s.r4 i p gi hp).2⟩
 ·have h1':=gj.2.1;have hl:j<x.cells.length:=by have:=gj.1;simpa [moveH] using this
  by_cases e:j=f
  ·rw[e,cf] at h1';simp [mvC] at h1'
  ·by_cases b:j=t
   ·exact⟨f,⟨hf,h1,nd f⟩,by rw[if_pos rfl];exact b⟩
   ·rw[co j e b] at h1';exact⟨j,⟨hl,h1',nd j⟩,by rw[if_neg e]⟩
 ·have n:∀i,Good x i→i≠t:=fun i g h=>by have:=g.2.1;rw[h,h0] at this;omega
  have:=n i gi;have:=n j gj
  split at e <;> split at e <;> omega
theorem Snd.live4m{x:Hp}(s:Snd x)(hp:x.phase=4)(t f:Nat)(htf:t<f)(hf:f<x.cells.length)(h0:(x.c t).st=0)(hlow:∀k,k<t→(x.c k).st≠0)(h1:(x.c f).st=1){r:Nat}(l:LiveIs x r):LiveIs (moveH x t f) r:=by
 have o:=s.o4m hp t f htf hf h0 h1;have sy:=s.mv hp t f htf hf h0 hlow h1;have hc:=move_c (x:=x) t f htf hf;obtain⟨_,p,hp',rfl⟩ | ⟨no,_⟩:=l
 ·have pt:p t=false:=by
   cases e:p t
   ·rfl
   ·have:=(Reached.good s.r2 s.r4 ((hp' t).1 e)).2.1;omega
  refine .inl ⟨sy.ok,fun j=>if j=t then p f else if j=f then false else p j,fun j=>?_,?_⟩
  ·show(if j=t then p f else if j=f then false else p j)=true↔_;constructor
   ·intro h;by_cases a:j=t
    ·rw[if_pos a] at h;have:Reached (moveH x t f) (if f=f then t else f):=o.to s ((hp' f).1 h);rw[if_pos rfl] at this;rw[a];exact this
    ·rw[if_neg a] at h;by_cases b:j=f
     ·rw[if_pos b] at h;cases h
     ·rw[if_neg b] at h;have:Reached (moveH x t f) (if j=f then t else j):=o.to s ((hp' j).1 h);rw[if_neg b] at this;exact this
   ·intro h;obtain⟨i,ri,e⟩:=o.from s sy h;have e:j=if i=f then t else i:=e
    have pi:=(hp' i).2 ri;by_cases b:i=f
    ·rw[if_pos b] at e;rw[if_pos e,←b];exact pi
    ·rw[if_neg b] at e;subst e;rw[if_neg (fun a=>by rw[a,pt] at pi;cases pi),if_neg b];exact pi
  ·rw[S0_sum,S0_sum];have hl:(moveH x t f).cells.length=x.cells.length:=by simp [moveH]
   rw[hl]
   have sw:=S0_swap (F:=fun i=>if p i then 1+(x.c i).prs.length else 0) (G:=fun i=>if (if i=t then p f else if i=f then false else p i)=true then 1+((moveH x t f).c i).prs.length else 0) t f (by omega) (fun i a b=>by simp only [hc,if_neg a,if_neg b]) (by
    have ne:¬t=f:=by omega
    simp only [hc,if_true,if_neg ne]) (by
    have ne:¬f=t:=by omega
    simp [pt,ne]) x.cells.length
   have ne:¬f=t:=by omega
   have ht:t<x.cells.length:=by omega
   simp only [if_pos hf,if_pos ht,pt] at sw;simp [ne] at sw;have ct:(moveH x t f).c t=x.c f:=by rw[hc,if_neg (by omega),if_pos rfl]
   rw[ct] at sw;simp at sw ⊢;omega
 ·exact absurd s.ok no
def itU:Nat→Hp→Hp
 | 0,x=>x
 | k+1,x=>unitH (itU k x)
theorem Snd.itU{x:Hp}(h:Snd x):∀k,Snd (itU k x)
 | 0=>h
 | k+1=>(Snd.itU h k).unit
def Runs(x:Hp)(k:Nat):Prop:=∀j,j<k→(itU j x).phase≠0
def EndIs(x:Hp)(k:Nat):Prop:=(itU k x).phase=0∧Runs x k
theorem Runs.zero(x:Hp):Runs x 0:=fun j h=>by omega
theorem Runs.succ{x:Hp}{k:Nat}(h:Runs x k)(h0:(itU k x).phase≠0):Runs x (k+1):=fun j hj=>by
 by_cases e:j=k
 ·rw[e];exact h0
 ·exact h j (by omega)
theorem Runs.mu{x:Hp}(s:Snd x):∀k,Runs x k→mu (itU k x)+k≤mu x
 | 0,_=>by simp [Go.Proofs.YtddkhnclmeikfaaGreat.itU]
 | k+1,h=>by
  have h1:=Runs.mu s k (fun j hj=>h j (by omega));have h2:=(s.itU k).less (h k (by omega));simp only [Go.Proofs.YtddkhnclmeikfaaGreat.itU];omega
theorem Runs.le{x:Hp}(s:Snd x){k:Nat}(h:Runs x k):k≤14000000:=by
 have:=Runs.mu s k h;have:=s.mu_le;omega
def StepIs(x:Hp)(n k:Nat):Prop:=Runs x k∧k≤n∧(k=n∨(itU k x).phase=0)
theorem Snd.o1{x:Hp}(s:Snd x)(hp:x.phase=1):Ovr x (unit1 x) (fun i=>i)∧(Col x→Col (unit1 x))∧((unit1 x).phase=1∨(unit1 x).phase=2):=by
 have hh:=s.r1.hand;unfold unit1
 split
 ·exact⟨ovr_turn (by omega) 2 0 0 x.rounds,fun c=>c.same rfl rfl (fun _=>rfl) (fun _ h=>h),.inr rfl⟩
 ·rename_i ne;by_cases e:spkB (x.c x.hand.toNat)=true
  ·rw[if_pos e];have hi:x.hand.toNat<x.cells.length:=by omega
   obtain⟨_,_,_,hr,hl,hph,_⟩:=shade_same x x.hand.toNat;have hc:=shade_un x x.hand.toNat hi;have sp:=(spkB_iff _).1 e
   have st:(x.c x.hand.toNat).st=1:=by
    have h2:=s.r2.1 _ hi;unfold Speaks at sp;rcases h2 with⟨_,b,_⟩ | ⟨_,b⟩ | ⟨h,_⟩
    ·have:=b.2.2.1;omega
    ·have:=b.1.2.2.1;omega
    ·exact h
   refine⟨ovr_un hr hl hc (fun j g=>good_st (x:=x) (y:={ shadeH x x.hand.toNat with hand:=x.hand+1 }) hl hc (by omega) g),fun c=>?_,.inl (by show(shadeH x _).phase=1;omega)⟩;exact(c.shade _ hi (Reached.last _ hi st sp)).same rfl rfl (fun _=>rfl) (fun _ h=>h)
  ·rw[if_neg e];exact⟨ovr_turn (by omega) x.phase (x.hand+1) x.sub x.rounds,fun c=>c.same rfl rfl (fun _=>rfl) (fun _ h=>h),.inl hp⟩
theorem Snd.reach_reg{x:Hp}(s:Snd x)(hp:x.phase<4)(i:Nat)(hi:i<x.regs.length)(hk:x.regs[i].k=2):Reached x x.regs[i].a.toNat:=by
 rw[←tgt_mark s hp (s.good_reg i hi) hk];exact Reached.reg i hi hk
theorem Snd.o2{x:Hp}(s:Snd x)(hp:x.phase=2):Ovr x (unit2 x) (fun i=>i)∧(Col x→(unit2 x).phase=2→Col (unit2 x))∧(Col x→(unit2 x).phase=3→Kept (unit2 x))∧((unit2 x).phase=2∨(unit2 x).phase=3):=by
 have hm:Marking x:=.inr hp;unfold unit2
 split
 ·rename_i g G hg;have h5:=s.r5.2.2 g (by rw[hg];simp);have hgl:g.toNat<x.cells.length:=by omega
  have cg:(x.c g.toNat).color=1:=(gray_in s.r5 g.toNat hgl).1 (by rw[hg];simp;omega)
  split
  ·rename_i hs;have hsb:=s.r1.sub;have hk:x.sub.toNat<(x.c g.toNat).prs.length:=by omega
   obtain⟨g1,g2⟩:=s.good_pair hm g.toNat x.sub.toNat hgl hk;obtain⟨ra,la,pa,ha,sa⟩:=shadeW_same x ((x.c g.toNat).p x.sub.toNat).key;have ua:=shadeW_un x ((x.c g.toNat).p x.sub.toNat).key g1;have g2':=g2.keep la ua;obtain⟨rb,lb,pb,hb,sb⟩:=shadeW_same (shadeW x ((x.c g.toNat).p x.sub.toNat).key) ((x.c g.toNat).p x.sub.toNat).val;have ub:=shadeW_un _ ((x.c g.toNat).p x.sub.toNat).val g2';have uc:∀q,((shadeW (shadeW x ((x.c g.toNat).p x.sub.toNat).key) ((x.c g.toNat).p x.sub.toNat).val).c q).un=(x.c q).un:=fun q=>(ub q).trans (ua q)
   have hl:=lb.trans la;have hr:=rb.trans ra;refine⟨ovr_un hr hl uc (fun j gj=>good_st (x:=x) (y:={ shadeW (shadeW x ((x.c g.toNat).p x.sub.toNat).key) ((x.c g.toNat).p x.sub.toNat).val with sub:=x.sub+1 }) hl uc (by omega) gj),fun c _=>?_,fun _ e=>?_,.inl ?_⟩
   ·have rg:=c g.toNat hgl (by omega)
    have rk:((x.c g.toNat).p x.sub.toNat).key.k=2→Reached x ((x.c g.toNat).p x.sub.toNat).key.a.toNat:=fun e=>by
     rw[←tgt_mark s (by omega) g1 e];exact Reached.key _ _ rg hk e
    have rv:((x.c g.toNat).p x.sub.toNat).val.k=2→Reached x ((x.c g.toNat).p x.sub.toNat).val.a.toNat:=fun e=>by
     rw[←tgt_mark s (by omega) g2 e];exact Reached.val _ _ rg hk e
    exact((c.shadeW _ g1 rk).shadeW _ g2' (fun e=>reach_un ra la ua (rv e))).same rfl rfl (fun _=>rfl) (fun _ h=>h)
   ·have e':(shadeW (shadeW x ((x.c g.toNat).p x.sub.toNat).key) ((x.c g.toNat).p x.sub.toNat).val).phase=3:=e;omega
   ·show(shadeW (shadeW x ((x.c g.toNat).p x.sub.toNat).key) ((x.c g.toNat).p x.sub.toNat).val).phase=2;omega
  ·have hc:∀q,(({ x with cells:=x.cells.set g.toNat (blackC (x.c g.toNat)),gray:=G,sub:=0 }:Hp).c q)=if q=g.toNat∧g.toNat<x.cells.length then blackC (x.c g.toNat) else x.c q:=fun q=>cs_set _ _ _ _
   have uc:∀q,(({ x with cells:=x.cells.set g.toNat (blackC (x.c g.toNat)),gray:=G,sub:=0 }:Hp).c q).un=(x.c q).un:=fun q=>by
    rw[hc];split
    ·rename_i h;rw[h.1];rfl
    ·rfl
   have hl:({ x with cells:=x.cells.set g.toNat (blackC (x.c g.toNat)),gray:=G,sub:=0 }:Hp).cells.length=x.cells.length:=by simp
   refine⟨ovr_un rfl hl uc (fun j gj=>good_st hl uc (by omega) gj),fun c _=>c.same rfl hl uc (fun q h=>?_),fun _ e=>?_,.inl hp⟩
   ·rw[hc] at h
    split at h
    ·rename_i h1;rw[h1.1];omega
    ·exact h
   ·have e':x.phase=3:=e;omega
 ·have sh:=(s.look hp).1
  have cl:Col x→Col (lookH x):=fun c=>Col.fold hm x.regs x (fun y hy=>by
   obtain⟨i,hi,e⟩:=List.getElem_of_mem hy;rw[←e];exact⟨s.good_reg i hi,s.reach_reg (by omega) i hi⟩) (Shd.refl s) c
  have hph:=sh.phase
  split
  ·refine⟨ovr_un (y:=toPh (lookH x) 3 0) sh.regs sh.len sh.un (fun j gj=>good_st (x:=x) (y:=toPh (lookH x) 3 0) sh.len sh.un (by omega) gj),fun _ e=>?_,fun c _ j gj=>?_,.inr rfl⟩
   ·have e':(3:Int)=2:=e;omega
   ·refine reach_un (x:=lookH x) (y:=toPh (lookH x) 3 0) rfl rfl (fun _=>rfl) (cl c j gj.1 (fun e=>gj.2.2 ⟨rfl,?_,gj.2.1,e⟩));show(0:Int)≤j;omega
  ·refine⟨ovr_un sh.regs sh.len sh.un (fun j gj=>good_st sh.len sh.un (by omega) gj),fun c _=>cl c,fun _ e=>?_,.inl (by omega)⟩;omega
theorem Snd.o3{x:Hp}(s:Snd x)(hp:x.phase=3):Ovr x (unit3 x) (fun i=>i)∧((unit3 x).phase=3∨(unit3 x).phase=4):=by
 have hh:=s.r1.hand;unfold unit3
 split
 ·rename_i e;exact⟨ovr_un (y:=toPh x 4 0) rfl rfl (fun _=>rfl) (fun j gj=>⟨gj.1,gj.2.1,fun d=>by have:=d.2.1;have:j<x.cells.length:=gj.1;omega⟩),.inr rfl⟩
 ·rename_i ne;have hi:x.hand.toNat<x.cells.length:=by omega
  split
  ·rename_i w;have w:=(whB_iff _).1 w;have dm:Doomed x x.hand.toNat:=⟨hp,by omega,w.1,w.2⟩;have hc:∀q,(({ x with used:=x.used-(1+(x.c x.hand.toNat).prs.length),cells:=x.cells.set x.hand.toNat Cl0,hand:=x.hand+1 }:Hp).c q)=if q=x.hand.toNat∧x.hand.toNat<x.cells.length then Cl0 else x.c q:=fun q=>cs_set _ _ _ _
   have ht:∀u,tgt ({ x with used:=x.used-(1+(x.c x.hand.toNat).prs.length),cells:=x.cells.set x.hand.toNat Cl0,hand:=x.hand+1 }:Hp) u=tgt x u:=fun u=>by
    unfold tgt lead2;rw[hc]
    split
    ·rename_i h1;rw[h1.1];simp [w.1,Cl0]
    ·rfl
   have hne:∀i,Good x i→({ x with used:=x.used-(1+(x.c x.hand.toNat).prs.length),cells:=x.cells.set x.hand.toNat Cl0,hand:=x.hand+1 }:Hp).c i=x.c i:=fun i gi=>by
    have n:¬(i=x.hand.toNat∧x.hand.toNat<x.cells.length):=fun h=>gi.2.2 (by rw[h.1];exact dm)
    rw[hc,if_neg n]
   refine⟨⟨rfl,fun k h h'=>⟨rfl,fun _=>ht _⟩,fun i gi=>?_,fun i p gi hp=>?_,fun i p gi hp=>?_,fun j gj=>⟨j,?_,rfl⟩,fun i gi=>by rw[hne i gi],fun _ _ _ _ h=>h,fun i gi=>by rw[hne i gi];exact⟨rfl,rfl⟩,fun _ _ _ _=>rfl,fun i p gi hp=>by rw[hne i gi];exact⟨fun _=>rfl,fun _=>rfl⟩⟩,.inl hp⟩
   ·rw[hne i gi];exact⟨gi.2.1,by simpa using gi.1,rfl,rfl⟩
   ·rw[hne i gi];exact⟨rfl,fun _=>ht _⟩
   ·rw[hne i gi];exact⟨rfl,fun _=>ht _⟩
   ·have h1:=gj.2.1
    have h2:¬(j=x.hand.toNat∧x.hand.toNat<x.cells.length):=fun h=>by
     rw[hc,if_pos h] at h1;simp [Cl0] at h1
    have h3:=gj.2.2;have e:({ x with used:=x.used-(1+(x.c x.hand.toNat).prs.length),cells:=x.cells.set x.hand.toNat Cl0,hand:=x.hand+1 }:Hp).c j=x.c j:=by rw[hc,if_neg h2]
    rw[e] at h1;refine⟨by simpa using gj.1,h1,fun d=>h3 ⟨hp,?_,by rw[e];exact h1,by rw[e];exact d.2.2.2⟩⟩;show x.hand+1≤j;have:=d.2.1;omega
  ·rename_i w;have w:=fun h=>w ((whB_iff _).2 h)
   have hc:∀q,(({ x with cells:=x.cells.set x.hand.toNat (whiteC (x.c x.hand.toNat)),hand:=x.hand+1 }:Hp).c q)=if q=x.hand.toNat∧x.hand.toNat<x.cells.length then whiteC (x.c x.hand.toNat) else x.c q:=fun q=>cs_set _ _ _ _
   have uc:∀q,(({ x with cells:=x.cells.set x.hand.toNat (whiteC (x.c x.hand.toNat)),hand:=x.hand+1 }:Hp).c q).un=(x.c q).un:=fun q=>by
    rw[hc];split
    ·rename_i h;rw[h.1];rfl
    ·rfl
   refine⟨ovr_un rfl (by simp) uc (fun j gj=>⟨by simpa using gj.1,by rw[←(un_parts (uc j)).1];exact gj.2.1,fun d=>?_⟩),.inl hp⟩;by_cases e:j=x.hand.toNat
   ·exact w (e ▸ ⟨d.2.2.1,d.2.2.2⟩)
   ·have h3:=gj.2.2;refine h3 ⟨hp,?_,gj.2.1,?_⟩
    ·show x.hand+1≤j;have:=d.2.1;omega
    ·rw[hc,if_neg (fun h=>e h.1)];exact d.2.2.2
theorem ovr_cell{x y:Hp}(i0:Nat)(hr:y.regs=x.regs)(hl:∀i,Good x i→i<y.cells.length)(hb:∀j,Good y j→Good x j)(hc:∀i,i≠i0→Good x i→y.c i=x.c i)
  (c0:Good x i0→(y.c i0).st=1∧(y.c i0).last=(x.c i0).last∧(y.c i0).prs.length=(x.c i0).prs.length∧(y.c i0).weak=(x.c i0).weak∧(y.c i0).kind=(x.c i0).kind∧(y.c i0).born=(x.c i0).born)
  (tr:∀k (h:k<x.regs.length),x.regs[k].k=2→tgt y x.regs[k]=tgt x x.regs[k])
  (tp:∀i p,i≠i0→Good x i→p<(x.c i).prs.length→(((x.c i).p p).key.k=2→tgt y ((x.c i).p p).key=tgt x ((x.c i).p p).key)∧(((x.c i).p p).val.k=2→tgt y ((x.c i).p p).val=tgt x ((x.c i).p p).val))
  (t0:∀p,Good x i0→p<(x.c i0).prs.length→(((y.c i0).p p).key.k=((x.c i0).p p).key.k∧(((x.c i0).p p).key.k=2→tgt y ((y.c i0).p p).key=tgt x ((x.c i0).p p).key))∧(((y.c i0).p p).val.k=((x.c i0).p p).val.k∧(((x.c i0).p p).val.k=2→tgt y ((y.c i0).p p).val=tgt x ((x.c i0).p p).val)))
  (n0:∀p,Good x i0→p<(x.c i0).prs.length→(((x.c i0).p p).key.k≠2→((y.c i0).p p).key=((x.c i0).p p).key)∧(((x.c i0).p p).val.k≠2→((y.c i0).p p).val=((x.c i0).p p).val)):Ovr x y (fun i=>i) where
 rl:=by rw[hr]
 rg:=fun k h h'=>by
  have e:y.regs[k]=x.regs[k]:=by simp only [hr]
  rw[e];exact⟨rfl,tr k h⟩
 g:=fun i gi=>by
  by_cases e:i=i0
  ·subst e;have:=c0 gi;exact⟨this.1,hl _ gi,this.2.1,this.2.2.1⟩
  ·rw[hc i e gi];exact⟨gi.2.1,hl _ gi,rfl,rfl⟩
 ky:=fun i p gi hp=>by
  by_cases e:i=i0
  ·subst e;exact(t0 p gi hp).1
  ·rw[hc i e gi];exact⟨rfl,(tp i p e gi hp).1⟩
 vl:=fun i p gi hp=>by
  by_cases e:i=i0
  ·subst e;exact(t0 p gi hp).2
  ·rw[hc i e gi];exact⟨rfl,(tp i p e gi hp).2⟩
 b:=fun j gj=>⟨j,hb j gj,rfl⟩
 wk:=fun i gi=>by
  by_cases e:i=i0
  ·subst e;exact(c0 gi).2.2.2.1
  ·rw[hc i e gi]
 ij:=fun _ _ _ _ h=>h
 kb:=fun i gi=>by
  by_cases e:i=i0
  ·subst e;exact(c0 gi).2.2.2.2
  ·rw[hc i e gi];exact⟨rfl,rfl⟩
 rn:=fun k h h' _=>by simp only [hr]
 pn:=fun i p gi hp=>by
  by_cases e:i=i0
  ·subst e;exact n0 p gi hp
  ·rw[hc i e gi];exact⟨fun _=>rfl,fun _=>rfl⟩
theorem Snd.o5{x:Hp}(s:Snd x)(hp:x.phase=5):Ovr x (unit5 x) (fun i=>i)∧((unit5 x).phase=5∨(unit5 x).phase=6)∧(∀q,((unit5 x).c q).st=(x.c q).st)∧(unit5 x).cells.length=x.cells.length∧((unit5 x).phase=6→(unit5 x).hand=x.cells.length):=by
 have hh:=s.r1.hand;have hsb:=s.r1.sub;unfold unit5
 split
 ·exact⟨ovr_turn (by omega) 6 x.cells.length 0 x.rounds,.inr rfl,fun _=>rfl,rfl,fun _=>rfl⟩
 ·rename_i ne
  split
  ·rename_i hlt;obtain⟨i,hi⟩:∃i,i=x.hand.toNat:=⟨_,rfl⟩;obtain⟨k,hk⟩:∃k,k=x.sub.toNat:=⟨_,rfl⟩;rw[←hi] at hlt ⊢;rw[←hk];have hil:i<x.cells.length:=by omega
   have hkl:k<(x.c i).prs.length:=by omega
   have hst:(x.c i).st=1:=by
    rcases s.r2.1 i hil with⟨_,b,_⟩ | ⟨_,b⟩ | ⟨a,_⟩
    ·have:=b.2.2.2.2.2;omega
    ·have:=b.1.2.2.2.2.2;omega
    ·exact a
   have nd:∀q,¬Doomed x q:=fun q d=>by have:=d.1;omega
   obtain⟨y,hy⟩:∃y:Hp,y={ x with cells:=x.cells.set i (mendC x (x.c i) k),sub:=x.sub+1 }:=⟨_,rfl⟩;have hc:∀q,y.c q=if q=i∧i<x.cells.length then mendC x (x.c i) k else x.c q:=fun q=>by rw[hy];exact cs_set _ _ _ _
   have yr:y.regs=x.regs:=by rw[hy]
   have yl:y.cells.length=x.cells.length:=by rw[hy];simp
   have yp:y.phase=x.phase:=by rw[hy]
   rw[←hy];clear hy;have ci:y.c i=mendC x (x.c i) k:=by rw[hc,if_pos ⟨rfl,hil⟩]
   have co:∀q,q≠i→y.c q=x.c q:=fun q h=>by rw[hc,if_neg (fun e=>h e.1)]
   have st:∀q,(y.c q).st=(x.c q).st:=fun q=>by
    by_cases e:q=i
    ·rw[e,ci];rfl
    ·rw[co q e]
   have tz:∀q,(y.c q).to=(x.c q).to:=fun q=>by
    by_cases e:q=i
    ·rw[e,ci];rfl
    ·rw[co q e]
   have tg:∀u,tgt y u=tgt x u:=fun u=>by unfold tgt lead2;rw[st,tz]
   have rs:∀u:Wd,MayMark x u→(resW x u).k=u.k∧(u.k=2→tgt x (resW x u)=tgt x u):=fun u mu=>by
    unfold resW;by_cases e:u.k=2∧(x.c u.a.toNat).st=2
    ·rw[if_pos e];obtain⟨_,a0,a1,_,gd⟩:=mu e.1;refine⟨e.1.symm,fun _=>?_⟩;have m:=s.moved_to (i:=u.a.toNat) (by omega) e.2;unfold tgt;rw[lead_yes e.2,lead_no (by show(x.c (x.c u.a.toNat).to.toNat).st≠2;omega)]
    ·rw[if_neg e];exact⟨rfl,fun _=>rfl⟩
   have gi:Good x i:=⟨hil,hst,nd i⟩
   have mp:∀p,(mendC x (x.c i) k).p p=if p=k then ⟨resW x ((x.c i).p k).key,resW x ((x.c i).p k).val⟩ else (x.c i).p p:=fun p=>by
    unfold mendC Cl.p;simp only [List.getD_eq_getElem?_getD,List.getElem?_set];by_cases e:k=p
    ·subst e;simp [hkl]
    ·simp [e,Ne.symm e]
   refine⟨ovr_cell i yr (fun j gj=>by rw[yl];exact gj.1) (fun j gj=>⟨by rw[←yl];exact gj.1,by rw[←st];exact gj.2.1,nd j⟩) (fun j hj _=>co j hj) (fun _=>?_) (fun _ _ _=>tg _) (fun _ _ _ _ _=>⟨fun _=>tg _,fun _=>tg _⟩) (fun p _ hpp=>?_) (fun p _ hpp=>?_),.inl (by rw[yp];exact hp),st,yl,fun e=>by omega⟩
   ·rw[ci];exact⟨hst,rfl,by simp [mendC],rfl,rfl,rfl⟩
   ·have mm:=may_pair s.r2 s.r4 i p gi hpp;rw[ci,mp];by_cases q:p=k
    ·rw[if_pos q];subst q;exact⟨⟨(rs _ mm.1).1,fun h=>by rw[tg];exact(rs _ mm.1).2 h⟩,⟨(rs _ mm.2).1,fun h=>by rw[tg];exact(rs _ mm.2).2 h⟩⟩
    ·rw[if_neg q];exact⟨⟨rfl,fun _=>tg _⟩,⟨rfl,fun _=>tg _⟩⟩
   ·rw[ci,mp];by_cases q:p=k
    ·rw[if_pos q,q];exact⟨fun z=>by show resW x _=_;unfold resW;rw[if_neg (fun h=>z h.1)],fun z=>by show resW x _=_;unfold resW;rw[if_neg (fun h=>z h.1)]⟩
    ·rw[if_neg q];exact⟨fun _=>rfl,fun _=>rfl⟩
  ·exact⟨ovr_turn (by omega) x.phase (x.hand+1) 0 x.rounds,.inl hp,fun _=>rfl,rfl,fun e=>by have e':x.phase=6:=e;omega⟩
theorem tgt_good{x:Hp}{u:Wd}(h:Good1 x u)(hk:u.k=2):tgt x u=u.a.toNat:=by unfold tgt;exact lead_no (by have:=(h hk).2;omega)
theorem Snd.o6{x:Hp}(s:Snd x)(hp:x.phase=6)(i:Nat){y:Hp}(yr:y.regs=x.regs)(yl:∀q,q<x.cells.length→(x.c q).st=1→q<y.cells.length)(yc:∀q,q<y.cells.length→q≠i→y.c q=x.c q)(yi:i<y.cells.length→(x.c i).st=1→y.c i=x.c i)(yn:i<y.cells.length→(x.c i).st≠1→(y.c i).st≠1)(yx:y.cells.length≤x.cells.length):Ovr x y (fun i=>i):=by
 obtain⟨nr,np⟩:=s.noword hp
 have cg:∀q,Good x q→y.c q=x.c q:=fun q g=>by
  have hq:=yl q g.1 g.2.1;by_cases e:q=i
  ·subst e;exact yi hq g.2.1
  ·exact yc q hq e
 have tg:∀u,Good1 x u→u.k=2→tgt y u=tgt x u:=fun u gu hk=>by
  have h:=gu hk;rw[tgt_good gu hk];unfold tgt;rw[lead_no];rw[cg _ ⟨h.1,h.2,fun d=>by have:=d.1;omega⟩];omega
 refine⟨by rw[yr],fun k h h'=>?_,fun q g=>?_,fun q p g hpp=>?_,fun q p g hpp=>?_,fun j g=>⟨j,?_,rfl⟩,fun q g=>by rw[cg q g],fun _ _ _ _ h=>h,fun q g=>by rw[cg q g];exact⟨rfl,rfl⟩,fun k h h' _=>by simp only [yr],fun q p g _=>by rw[cg q g];exact⟨fun _=>rfl,fun _=>rfl⟩⟩
 ·have e:y.regs[k]=x.regs[k]:=by simp only [yr]
  rw[e];exact⟨rfl,tg _ (nr k h)⟩
 ·rw[cg q g];exact⟨g.2.1,yl q g.1 g.2.1,rfl,rfl⟩
 ·rw[cg q g];exact⟨rfl,tg _ (np q p g.1 hpp).1⟩
 ·rw[cg q g];exact⟨rfl,tg _ (np q p g.1 hpp).2⟩
 ·have h1:=g.2.1;refine⟨Nat.lt_of_lt_of_le g.1 yx,?_,fun d=>by have:=d.1;omega⟩;by_cases e:j=i
  ·subst e;by_cases u:(x.c j).st=1
   ·exact u
   ·exact(yn g.1 u h1).elim
  ·rw[←yc j g.1 e];exact h1
end Go.Proofs.YtddkhnclmeikfaaGreat
