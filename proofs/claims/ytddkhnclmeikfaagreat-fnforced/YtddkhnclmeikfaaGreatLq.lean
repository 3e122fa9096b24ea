import Derived.Test.YtddkhnclmeikfaaGreatGg0
import Derived.Test.YtddkhnclmeikfaaGreatGw
import Derived.Test.YtddkhnclmeikfaaGreatImpP
import Derived.Deep.RegionLaw
set_option maxRecDepth 100000
set_option maxHeartbeats 4000000
namespace Go.Proofs.YtddkhnclmeikfaaGreat
open Go.RowKit
attribute [local go_sem ↓] Go.wp_at_zero Go.wp_at_succ
def fW(y:Wd):List Value:=[iv y.k,iv y.n,iv y.a]
def fP(p:Pr):List Value:=[iv p.key.k,iv p.key.n,iv p.key.a,iv p.val.k,iv p.val.n,iv p.val.a]
def fC(z:Cl×Value):List Value:=[iv z.1.st,iv z.1.kind,iv z.1.weak,iv z.1.last,iv z.1.born,iv z.1.color,iv z.1.to,z.2]
theorem ownW{w:World}{base:Nat}{v:Value}{L:List Wd}(h:w.ownsRow base 152 3 v L.length (L.flatMap fW))(hl:L.length≤1048576):SlW w v L:=by
 obtain⟨ad,cap,e,_,hx⟩:=own_cells (f:=fW) (fun _=>rfl) h;refine⟨ad,cap,e,by omega,fun i hi=>?_⟩;obtain⟨g,ea,_,_,hc⟩:=hx i hi;exact⟨g,0,ea,by have:=hc 0 (by omega);simpa [fW] using this,by have:=hc 1 (by omega);simpa [fW] using this,by have:=hc 2 (by omega);simpa [fW] using this⟩
theorem ownP{w:World}{base:Nat}{v:Value}{L:List Pr}(h:w.ownsRow base 154 6 v L.length (L.flatMap fP))(hl:L.length≤1048576):SlP w v L:=by
 obtain⟨ad,cap,e,_,hx⟩:=own_cells (f:=fP) (fun _=>rfl) h;refine⟨ad,cap,e,by omega,fun i hi=>?_⟩;obtain⟨g,ea,_,_,hc⟩:=hx i hi;exact⟨g,0,ea,by have:=hc 0 (by omega);simpa [fP] using this,by have:=hc 1 (by omega);simpa [fP] using this,by have:=hc 2 (by omega);simpa [fP] using this,by have:=hc 3 (by omega);simpa [fP] using this,by have:=hc 4 (by omega);simpa [fP] using this,by have:=hc 5 (by omega);simpa [fP] using this⟩
def S7(w:World)(b o:Nat)(c:Cl):Prop:=
 w.cell? ⟨b,o,none⟩=some (iv c.st)∧w.cell? ⟨b,o+1,none⟩=some (iv c.kind)∧w.cell? ⟨b,o+2,none⟩=some (iv c.weak)∧w.cell? ⟨b,o+3,none⟩=some (iv c.last)∧w.cell? ⟨b,o+4,none⟩=some (iv c.born)∧w.cell? ⟨b,o+5,none⟩=some (iv c.color)∧w.cell? ⟨b,o+6,none⟩=some (iv c.to)
theorem S7.of{w w':World}{b o:Nat}{c:Cl}(h:S7 w b o c)(e:∀j,j<7→w'.cell? ⟨b,o+j,none⟩=w.cell? ⟨b,o+j,none⟩):S7 w' b o c:=by
 obtain⟨a0,a1,a2,a3,a4,a5,a6⟩:=h;exact⟨(e 0 (by omega)).trans a0,(e 1 (by omega)).trans a1,(e 2 (by omega)).trans a2,(e 3 (by omega)).trans a3,(e 4 (by omega)).trans a4,(e 5 (by omega)).trans a5,(e 6 (by omega)).trans a6⟩
theorem PrAt.of{w w':World}{b o:Nat}{p:Pr}(h:PrAt w b o p)(e:∀j,j<6→w'.cell? ⟨b,o+j,none⟩=w.cell? ⟨b,o+j,none⟩):PrAt w' b o p:=by
 obtain⟨a0,a1,a2,a3,a4,a5⟩:=h;exact⟨(e 0 (by omega)).trans a0,(e 1 (by omega)).trans a1,(e 2 (by omega)).trans a2,(e 3 (by omega)).trans a3,(e 4 (by omega)).trans a4,(e 5 (by omega)).trans a5⟩
theorem WdAt.of{w w':World}{b o:Nat}{y:Wd}(h:WdAt w b o y)(e:∀j,j<3→w'.cell? ⟨b,o+j,none⟩=w.cell? ⟨b,o+j,none⟩):WdAt w' b o y:=by
 obtain⟨a0,a1,a2⟩:=h;exact⟨(e 0 (by omega)).trans a0,(e 1 (by omega)).trans a1,(e 2 (by omega)).trans a2⟩
structure Nfp(b k:Nat)(w:World):Prop where
 lt:b<w.heap.size
 nf:∀j,w.frozen? ⟨b,j,none⟩=false
 cp:∀j,j<k*6→∃v,w.cell? ⟨b,j,none⟩=some v
theorem Nfp.n1{b k:Nat}{w:World}(h:Nfp b k w):Nf1 b w:=⟨h.1,h.2⟩
theorem nfp_block{w w':World}{b k:Nat}(h:Nfp b k w)(hb:w'.heap[b]?=w.heap[b]?)(hs:w.heap.size≤w'.heap.size):Nfp b k w':=
 ⟨Nat.lt_of_lt_of_le h.1 hs,fun j=>(World.frozen?_of_block (a:=⟨b,j,none⟩) hb).trans (h.2 j),fun j hj=>let ⟨v,hv⟩:=h.3 j hj;⟨v,(World.cell?_of_block (a:=⟨b,j,none⟩) hb).trans hv⟩⟩
theorem Nfp.ext{b k:Nat}{w w':World}(h:Nfp b k w)(e:Ext w w'):Nfp b k w':=nfp_block h (e.block b h.1) e.size
theorem Nfp.set{b k:Nat}{w:World}(h:Nfp b k w)(p:Addr)(u:Value):Nfp b k (w.setCell p u):=⟨(h.n1.set p u).1,(h.n1.set p u).2,fun j hj=>let ⟨_,hv⟩:=h.3 j hj;cell?_setCell_some hv⟩
theorem Nfp.put{b k g:Nat}:∀{vs:List Value} {w:World} {o:Nat},Nfp b k w→Nfp b k (w.setCells g o vs)
 | [],_,_,h=>h
 | _::r,_,_,h=>Nfp.put (vs:=r) (h.set _ _)
theorem nfp_pair{w w':World}{b c k:Nat}{p:Pr}(h:Nfp b c w)(n:Nf1 b w')(hp:PrAt w' b (k*6) p)(ho:∀j,(j<k*6∨k*6+6≤j)→w'.cell? ⟨b,j,none⟩=w.cell? ⟨b,j,none⟩):Nfp b c w':=
 ⟨n.1,n.2,fun j hj=>by
  by_cases e:j<k*6∨k*6+6≤j
  ·rw[ho j e];exact h.3 j hj
  ·obtain⟨h0,h1,h2,h3,h4,h5⟩:=hp;have:j=k*6∨j=k*6+1∨j=k*6+2∨j=k*6+3∨j=k*6+4∨j=k*6+5:=by omega
   rcases this with rfl | rfl | rfl | rfl | rfl | rfl
   ·exact⟨_,h0⟩
   ·exact⟨_,h1⟩
   ·exact⟨_,h2⟩
   ·exact⟨_,h3⟩
   ·exact⟨_,h4⟩
   ·exact⟨_,h5⟩⟩
structure Rws(B:Nat)(w:World)(x:Hp)(br bc:Nat)(pb:Nat→Nat)(pa:Nat→Option Addr)(pk:Nat→Nat):Prop where
 r:∀i (hi:i<x.regs.length),WdAt w br (i*3) x.regs[i]
 s:∀q,q<x.cells.length→S7 w bc (q*8) (x.c q)
 p7:∀q,q<x.cells.length→w.cell? ⟨bc,q*8+7,none⟩=some (.slice (pa q) (x.c q).prs.length (pk q))
 p:∀q,q<x.cells.length→∀k,k<(x.c q).prs.length→PrAt w (pb q) (k*6) ((x.c q).p k)
 pl:∀q,q<x.cells.length→0<pk q→pa q=some ⟨pb q,0,none⟩∧Nfp (pb q) (pk q) w∧(pb q≠br∧pb q≠bc)∧B≤pb q
 nr:0<x.regs.length→Nf1 br w∧B≤br
 nc:0<x.cells.length→Nf1 bc w∧B≤bc
 d:0<x.cells.length→br≠bc
 dp:∀q q',q<x.cells.length→q'<x.cells.length→q≠q'→0<pk q→0<pk q'→pb q≠pb q'
 kp:∀q,q<x.cells.length→(x.c q).prs.length≤pk q
theorem Rws.pw{B:Nat}{w:World}{x:Hp}{br bc:Nat}{pb:Nat→Nat}{pa:Nat→Option Addr}{pk:Nat→Nat}(h:Rws B w x br bc pb pa pk){q:Nat}(hq:q<x.cells.length)(hl:0<(x.c q).prs.length):0<pk q:=Nat.lt_of_lt_of_le hl (h.kp q hq)
theorem nf1_block{w w':World}{b:Nat}(h:Nf1 b w)(hb:w'.heap[b]?=w.heap[b]?)(hs:w.heap.size≤w'.heap.size):Nf1 b w':=
 ⟨Nat.lt_of_lt_of_le h.1 hs,fun j=>(World.frozen?_of_block (a:=⟨b,j,none⟩) hb).trans (h.2 j)⟩
theorem Rws.same{B:Nat}{w w':World}{x:Hp}{br bc:Nat}{pb:Nat→Nat}{pa:Nat→Option Addr}{pk:Nat→Nat}(h:Rws B w x br bc pb pa pk)(hs:w.heap.size≤w'.heap.size)
  (hr:0<x.regs.length→w'.heap[br]?=w.heap[br]?) (hc:0<x.cells.length→w'.heap[bc]?=w.heap[bc]?) (hp:∀q,q<x.cells.length→0<pk q→w'.heap[pb q]?=w.heap[pb q]?):Rws B w' x br bc pb pa pk where
 r:=fun i hi=>(h.r i hi).of fun j _=>World.cell?_of_block (a:=⟨br,_,none⟩) (hr (by omega))
 s:=fun q hq=>(h.s q hq).of fun j _=>World.cell?_of_block (a:=⟨bc,_,none⟩) (hc (by omega))
 p7:=fun q hq=>(World.cell?_of_block (a:=⟨bc,_,none⟩) (hc (by omega))).trans (h.p7 q hq)
 p:=fun q hq k hk=>(h.p q hq k hk).of fun j _=>World.cell?_of_block (a:=⟨pb q,_,none⟩) (hp q hq (h.pw hq (by omega)))
 pl:=fun q hq hl=>let ⟨a,b,c⟩:=h.pl q hq hl;⟨a,nfp_block b (hp q hq hl) hs,c⟩
 nr:=fun hl=>⟨nf1_block (h.nr hl).1 (hr hl) hs,(h.nr hl).2⟩
 nc:=fun hl=>⟨nf1_block (h.nc hl).1 (hc hl) hs,(h.nc hl).2⟩
 d:=h.d
 dp:=h.dp
 kp:=h.kp
theorem Rws.ext{B:Nat}{w w':World}{x:Hp}{br bc:Nat}{pb:Nat→Nat}{pa:Nat→Option Addr}{pk:Nat→Nat}(h:Rws B w x br bc pb pa pk)(e:Ext w w'):Rws B w' x br bc pb pa pk:=
 h.same e.size (fun hl=>e.block _ (h.nr hl).1.1) (fun hl=>e.block _ (h.nc hl).1.1) (fun q hq hl=>e.block _ (h.pl q hq hl).2.1.1)
theorem Rws.only{S:Nat→Prop}{B:Nat}{w w':World}{x:Hp}{br bc:Nat}{pb:Nat→Nat}{pa:Nat→Option Addr}{pk:Nat→Nat}(h:Rws B w x br bc pb pa pk)(e:Only S w w')(hr:0<x.regs.length→¬S br)(hc:0<x.cells.length→¬S bc)(hp:∀q,q<x.cells.length→0<pk q→¬S (pb q)):Rws B w' x br bc pb pa pk:=
 h.same e.size (fun hl=>e.block _ (h.nr hl).1.1 (hr hl)) (fun hl=>e.block _ (h.nc hl).1.1 (hc hl)) (fun q hq hl=>e.block _ (h.pl q hq hl).2.1.1 (hp q hq hl))
theorem Rws.less{B C:Nat}{w:World}{x:Hp}{br bc:Nat}{pb:Nat→Nat}{pa:Nat→Option Addr}{pk:Nat→Nat}(h:Rws B w x br bc pb pa pk)(hc:C≤B):Rws C w x br bc pb pa pk:=
 ⟨h.r,h.s,h.p7,h.p,fun q hq hl=>let ⟨a,b,c,d⟩:=h.pl q hq hl;⟨a,b,c,Nat.le_trans hc d⟩,fun hl=>⟨(h.nr hl).1,Nat.le_trans hc (h.nr hl).2⟩,fun hl=>⟨(h.nc hl).1,Nat.le_trans hc (h.nc hl).2⟩,h.d,h.dp,h.kp⟩
theorem Rws.slW{B:Nat}{w:World}{x:Hp}{br bc:Nat}{pb:Nat→Nat}{pa:Nat→Option Addr}{pk:Nat→Nat}(h:Rws B w x br bc pb pa pk){ad:Option Addr}(kr:Nat)(ha:0<x.regs.length→ad=some ⟨br,0,none⟩)(hl:x.regs.length≤1048576):SlW w (.slice ad x.regs.length kr) x.regs:=
 ⟨_,_,rfl,by omega,fun i hi=>⟨br,0,ha (by omega),by rw[Nat.zero_add];exact h.r i hi⟩⟩
theorem Rws.slC{B:Nat}{w:World}{x:Hp}{br bc:Nat}{pb:Nat→Nat}{pa:Nat→Option Addr}{pk:Nat→Nat}(h:Rws B w x br bc pb pa pk){ad:Option Addr}(kc:Nat)(ha:0<x.cells.length→ad=some ⟨bc,0,none⟩)(hl:x.cells.length≤1048576)(h2:∀q,q<x.cells.length→(x.c q).prs.length≤200):SlC w (.slice ad x.cells.length kc) x.cells:=by
 refine⟨_,_,rfl,by omega,fun i hi=>⟨bc,0,ha (by omega),?_⟩⟩;rw[Nat.zero_add,Hp.c_eq x i hi];obtain⟨a0,a1,a2,a3,a4,a5,a6⟩:=h.s i hi;refine⟨_,a0,a1,a2,a3,a4,a5,a6,h.p7 i hi,_,_,rfl,by have:=h2 i hi;omega,fun k hk=>⟨pb i,0,(h.pl i hi (h.pw hi (by omega))).1,?_⟩⟩;rw[Nat.zero_add,Cl.p_eq _ _ hk];exact h.p i hi k hk
theorem cloneW_any(xs:List Wd)(v:Value)(w:World)(h:SlW w v xs)(hn:xs.length≤1048576):
  Calls Tryz.prog 210 #[v] w fun e w'=>∃v',e=.returned v'∧w'.ownsRow w.heap.size 152 3 v' xs.length (xs.flatMap fW)∧Ext w w':=by
 obtain⟨i0,hi0,hz0,hz1,hz2⟩:=info_parts infoWords;obtain⟨ad,cap,rfl,_,hx⟩:=h;have HX:=hide hx;clear hx;cases ad with
 | none=>
  have hl:xs.length=0:=by
   rcases Nat.eq_zero_or_pos xs.length with h | h
   ·exact h
   ·obtain⟨b,o,e,_⟩:=unhide HX 0 h;cases e
  have hx0:xs=[]:=List.eq_nil_of_length_eq_zero hl;subst hx0;clear HX hl;have hq:∀W,(binOp .eql 30 (.slice none 0 cap) (.slice none 0 0)).run Tryz.prog W=.ok (.bool true) W:=fun _=>by kernel_rfl
  simp only [List.length_nil];go_enter Tryz.func210,Tryz.ntmps210;go_wp2_with fail;go_ret;exact⟨_,rfl,World.ownsRow_nil _ _ _ _,Ext.refl _⟩
 | some ad=>
  have NW:=hide (show ∀W,Ext w W→∀j u,(xs.flatMap fW)[j]?=some u→W.cell? (ad.add j)=some u from fun W e j u hu=>by
   rcases Nat.eq_zero_or_pos xs.length with h | h
   ·rw[List.eq_nil_of_length_eq_zero h] at hu;simp at hu
   ·obtain⟨b,o,e0,_⟩:=unhide HX 0 h;cases e0;refine flat_news fW 3 (by omega) (fun _=>rfl) xs b o (fun i hi j hj=>?_) j u hu;obtain⟨b2,o2,e2,q⟩:=unhide HX i hi;cases e2;have q:=q.ext e;obtain⟨q0,q1,q2⟩:=q
    match j,hj with
    | 0,_=>exact q0
    | 1,_=>exact q1
    | 2,_=>exact q2
   )
  have V1:=hide (show ∀u,u∈xs.flatMap fW→u.oneCell'=true from flat_one fW (fun a u hu=>by simp [fW] at hu;rcases hu with e | e | e <;> subst e <;> rfl) xs);have hq:∀W n k,(binOp .eql 30 (.slice (some ad) n k) (.slice none 0 0)).run Tryz.prog W=.ok (.bool false) W:=fun _ _ _=>by kernel_rfl
  go_enter Tryz.func210,Tryz.ntmps210;go_wp2_with (at_builtin;refine wpList_append_own_at _ rfl _ _ 30 rfl w.heap.size 152 i0 (.agg #[iv 0,iv 0,iv 0]) 3 24 Tryz.underlying30 hi0 hz0 hz1 hz2 rfl (by decide) _ 0 [] rfl (World.ownsRow_made w #[] 0 (Nat.le_refl _) (by unfold maxLen;omega) rfl) ad xs.length cap (xs.flatMap fW) rfl (flat_len fW 3 (fun _=>rfl) xs) (unhide NW _ ((Ext.refl w).alloc _)) (unhide V1) (by unfold maxLen;omega) (by omega) (by simp) ?_);intro v' w' hown hgrow _ _;have FIN:=hide (And.intro hown (grown_ext ((Ext.refl w).alloc _) (World.ownsRow_made (e:=152) (size:=3) w #[] 0 (Nat.le_refl _) (by unfold maxLen;omega) rfl) (Nat.le_refl _) hgrow));clear hown hgrow;go_wp2_with fail;go_ret;exact⟨_,rfl,(unhide FIN).1,(unhide FIN).2⟩
theorem cloneP_any(xs:List Pr)(v:Value)(w:World)(h:SlP w v xs)(hn:xs.length≤1048576):
  Calls Tryz.prog 212 #[v] w fun e w'=>∃v',e=.returned v'∧w'.ownsRow w.heap.size 154 6 v' xs.length (xs.flatMap fP)∧Ext w w':=by
 obtain⟨i0,hi0,hz0,hz1,hz2⟩:=info_parts infoPairs;obtain⟨ad,cap,rfl,_,hx⟩:=h;have HX:=hide hx;clear hx;cases ad with
 | none=>
  have hl:xs.length=0:=by
   rcases Nat.eq_zero_or_pos xs.length with h | h
   ·exact h
   ·obtain⟨b,o,e,_⟩:=unhide HX 0 h;cases e
  have hx0:xs=[]:=List.eq_nil_of_length_eq_zero hl;subst hx0;clear HX hl;have hq:∀W,(binOp .eql 60 (.slice none 0 cap) (.slice none 0 0)).run Tryz.prog W=.ok (.bool true) W:=fun _=>by kernel_rfl
  simp only [List.length_nil];go_enter Tryz.func212,Tryz.ntmps212;go_wp2_with fail;go_ret;exact⟨_,rfl,World.ownsRow_nil _ _ _ _,Ext.refl _⟩
 | some ad=>
  have NW:=hide (show ∀W,Ext w W→∀j u,(xs.flatMap fP)[j]?=some u→W.cell? (ad.add j)=some u from fun W e j u hu=>by
   rcases Nat.eq_zero_or_pos xs.length with h | h
   ·rw[List.eq_nil_of_length_eq_zero h] at hu;simp at hu
   ·obtain⟨b,o,e0,_⟩:=unhide HX 0 h;cases e0;refine flat_news fP 6 (by omega) (fun _=>rfl) xs b o (fun i hi j hj=>?_) j u hu;obtain⟨b2,o2,e2,q⟩:=unhide HX i hi;cases e2;have q:=q.ext e;obtain⟨q0,q1,q2,q3,q4,q5⟩:=q
    match j,hj with
    | 0,_=>exact q0
    | 1,_=>exact q1
    | 2,_=>exact q2
    | 3,_=>exact q3
    | 4,_=>exact q4
    | 5,_=>exact q5
   )
  have V1:=hide (show ∀u,u∈xs.flatMap fP→u.oneCell'=true from flat_one fP (fun a u hu=>by simp [fP] at hu;rcases hu with e | e | e | e | e | e <;> subst e <;> rfl) xs);have hq:∀W n k,(binOp .eql 60 (.slice (some ad) n k) (.slice none 0 0)).run Tryz.prog W=.ok (.bool false) W:=fun _ _ _=>by kernel_rfl
  go_enter Tryz.func212,Tryz.ntmps212;go_wp2_with (at_builtin;refine wpList_append_own_at _ rfl _ _ 60 rfl w.heap.size 154 i0 (.agg #[iv 0,iv 0,iv 0,iv 0,iv 0,iv 0]) 6 48 Tryz.underlying60 hi0 hz0 hz1 hz2 rfl (by decide) _ 0 [] rfl (World.ownsRow_made w #[] 0 (Nat.le_refl _) (by unfold maxLen;omega) rfl) ad xs.length cap (xs.flatMap fP) rfl (flat_len fP 6 (fun _=>rfl) xs) (unhide NW _ ((Ext.refl w).alloc _)) (unhide V1) (by unfold maxLen;omega) (by omega) (by simp) ?_);intro v' w' hown hgrow _ _;have FIN:=hide (And.intro hown (grown_ext ((Ext.refl w).alloc _) (World.ownsRow_made (e:=154) (size:=6) w #[] 0 (Nat.le_refl _) (by unfold maxLen;omega) rfl) (Nat.le_refl _) hgrow));clear hown hgrow;go_wp2_with fail;go_ret;exact⟨_,rfl,(unhide FIN).1,(unhide FIN).2⟩
def CvAt(w:World)(b o:Nat)(z:Cl×Value):Prop:=∀j,j<8→w.cell? ⟨b,o+j,none⟩=(fC z)[j]?
theorem slC_pick{w:World}{v:Value}{xs:List Cl}(h:SlC w v xs):∃L:List (Cl×Value),L.map (·.1)=xs∧SlOf (CvAt w) 8 v L∧∀z,z∈L→SlP w z.2 z.1.prs:=by
 obtain⟨ad,cap,rfl,hl,hx⟩:=h
 have hv:∀i,∃vp,∀(hi:i<xs.length),∃b o,ad=some ⟨b,o,none⟩∧CvAt w b (o+i*8) (xs[i],vp)∧SlP w vp xs[i].prs:=fun i=>by
  by_cases hi:i<xs.length
  ·obtain⟨b,o,e,vp,p0,p1,p2,p3,p4,p5,p6,p7,hP⟩:=hx i hi;refine⟨vp,fun _=>⟨b,o,e,fun j hj=>?_,hP⟩⟩
   match j,hj with
   | 0,_=>exact p0
   | 1,_=>exact p1
   | 2,_=>exact p2
   | 3,_=>exact p3
   | 4,_=>exact p4
   | 5,_=>exact p5
   | 6,_=>exact p6
   | 7,_=>exact p7
  ·exact⟨.slice none 0 0,fun h=>absurd h hi⟩
 have hm:=fun i=>Classical.choose_spec (hv i)
 refine⟨(List.range xs.length).map (fun i=>(xs.getD i Cl0,Classical.choose (hv i))),?_,⟨ad,cap,by simp,by simpa using hl,fun i hi=>?_⟩,fun z hz=>?_⟩
 ·refine List.ext_getElem (by simp) (fun i h1 h2=>?_);simp [h2]
 ·have hi':i<xs.length:=by simpa using hi
  obtain⟨b,o,e,c,_⟩:=hm i hi';refine⟨b,o,e,?_⟩;simp only [List.getElem_map,List.getElem_range];have e2:xs.getD i Cl0=xs[i]:=by simp [hi']
  rw[e2];exact c
 ·obtain⟨i,hi,rfl⟩:=List.mem_map.1 hz;have hi':i<xs.length:=by simpa using hi
  obtain⟨b,o,e,_,c⟩:=hm i hi';have e2:xs.getD i Cl0=xs[i]:=by simp [hi']
  simp only [e2];exact c
theorem slP_one{w:World}{v:Value}{xs:List Pr}(h:SlP w v xs):v.oneCell'=true:=by obtain⟨ad,cap,rfl,_⟩:=h;rfl
theorem cloneC_any(L:List (Cl×Value))(v:Value)(w:World)(h:SlOf (CvAt w) 8 v L)(h1:∀z,z∈L→z.2.oneCell'=true)(hn:L.length≤1048576):
  Calls Tryz.prog 211 #[v] w fun e w'=>∃v',e=.returned v'∧w'.ownsRow w.heap.size 62 8 v' L.length (L.flatMap fC)∧Ext w w':=by
 obtain⟨i0,hi0,hz0,hz1,hz2⟩:=info_parts infoCells;obtain⟨ad,cap,rfl,_,hx⟩:=h;have HX:=hide hx
 have V1:=hide (show ∀u,u∈L.flatMap fC→u.oneCell'=true from fun u hu=>by
  obtain⟨a,h2,hu⟩:=List.mem_flatMap.1 hu;simp [fC] at hu;rcases hu with e | e | e | e | e | e | e | e <;> subst e <;> first | rfl | exact h1 a h2)
 clear hx h1;cases ad with
 | none=>
  have hl:L.length=0:=by
   rcases Nat.eq_zero_or_pos L.length with h | h
   ·exact h
   ·obtain⟨b,o,e,_⟩:=unhide HX 0 h;cases e
  have hx0:L=[]:=List.eq_nil_of_length_eq_zero hl;subst hx0;clear HX hl V1;have hq:∀W,(binOp .eql 31 (.slice none 0 cap) (.slice none 0 0)).run Tryz.prog W=.ok (.bool true) W:=fun _=>by kernel_rfl
  simp only [List.length_nil];go_enter Tryz.func211,Tryz.ntmps211;go_wp2_with fail;go_ret;exact⟨_,rfl,World.ownsRow_nil _ _ _ _,Ext.refl _⟩
 | some ad=>
  have NW:=hide (show ∀W,Ext w W→∀j u,(L.flatMap fC)[j]?=some u→W.cell? (ad.add j)=some u from fun W e j u hu=>by
   rcases Nat.eq_zero_or_pos L.length with h | h
   ·rw[List.eq_nil_of_length_eq_zero h] at hu;simp at hu
   ·obtain⟨b,o,e0,_⟩:=unhide HX 0 h;cases e0;refine flat_news fC 8 (by omega) (fun _=>rfl) L b o (fun i hi j hj=>?_) j u hu;obtain⟨b2,o2,e2,q⟩:=unhide HX i hi;cases e2;have:=q j hj;rw[←this];cases hc:w.cell? ⟨b,o+i*8+j,none⟩ with
    | none=>rw[this] at hc;match j,hj with | 0,_ | 1,_ | 2,_ | 3,_ | 4,_ | 5,_ | 6,_ | 7,_=>simp [fC] at hc
    | some y=>exact e.keep hc)
  have hq:∀W n k,(binOp .eql 31 (.slice (some ad) n k) (.slice none 0 0)).run Tryz.prog W=.ok (.bool false) W:=fun _ _ _=>by kernel_rfl
  go_enter Tryz.func211,Tryz.ntmps211;go_wp2_with (at_builtin;refine wpList_append_own_at _ rfl _ _ 31 rfl w.heap.size 62 i0 (.agg #[iv 0,iv 0,iv 0,iv 0,iv 0,iv 0,iv 0,.slice none 0 0]) 8 80 Tryz.underlying31 hi0 hz0 hz1 hz2 rfl (by decide) _ 0 [] rfl (World.ownsRow_made w #[] 0 (Nat.le_refl _) (by unfold maxLen;omega) rfl) ad L.length cap (L.flatMap fC) rfl (flat_len fC 8 (fun _=>rfl) L) (unhide NW _ ((Ext.refl w).alloc _)) (unhide V1) (by unfold maxLen;omega) (by omega) (by simp) ?_);intro v' w' hown hgrow _ _;have FIN:=hide (And.intro hown (grown_ext ((Ext.refl w).alloc _) (World.ownsRow_made (e:=62) (size:=8) w #[] 0 (Nat.le_refl _) (by unfold maxLen;omega) rfl) (Nat.le_refl _) hgrow));clear hown hgrow;go_wp2_with fail;go_ret;exact⟨_,rfl,(unhide FIN).1,(unhide FIN).2⟩
def vaddr:Value→Option Addr
 | .slice a _ _=>a
 | _=>none
def vcap:Value→Nat
 | .slice _ _ k=>k
 | _=>0
def vblk(v:Value):Nat:=v.ownBlock.getD 0
theorem own_form{w:World}{B:Nat}{t:TypeId}{c n:Nat}{v:Value}{xs:List Value}(h:w.ownsRow B t c v n xs):v=.slice (vaddr v) n (vcap v)∧(0<n→vaddr v=some ⟨vblk v,0,none⟩∧v.ownBlock=some (vblk v)):=by
 rcases h.2 with⟨rfl,rfl⟩ | ⟨g,cap,cur,rfl,_⟩
 ·exact⟨rfl,fun h=>by omega⟩
 ·exact⟨rfl,fun _=>⟨rfl,rfl⟩⟩
theorem own_nf{w:World}{B:Nat}{t:TypeId}{c n:Nat}{v:Value}{xs:List Value}(h:w.ownsRow B t c v n xs)(hn:0<n):Nf1 (vblk v) w∧B≤vblk v:=by
 obtain⟨e,h2⟩:=own_form h;obtain⟨h3,h4⟩:=h2 hn;refine⟨⟨(h.lt _ h4).2,fun j=>?_⟩,(h.lt _ h4).1⟩;rw[e,h3] at h;exact World.ownsRow.frozenAt h j
theorem own_at{w:World}{B:Nat}{t:TypeId}{c:Nat}{v:Value}{α:Type}{f:α→List Value}(hc:∀a,(f a).length=c){L:List α}(h:w.ownsRow B t c v L.length (L.flatMap f))(i:Nat)(hi:i<L.length)(j:Nat)(hj:j<c):w.cell? ⟨vblk v,i*c+j,none⟩=(f L[i])[j]?:=by
 obtain⟨e,h2⟩:=own_form h;obtain⟨h3,h4⟩:=h2 (by omega);obtain⟨ad,cap,e2,_,hx⟩:=own_cells hc h;obtain⟨g,e3,_,_,q⟩:=hx i hi;have:vblk v=g:=by rw[e2,e3];rfl
 rw[this];have:=q j hj
 rwa [Nat.zero_add] at this
theorem own_kp{w:World}{B:Nat}{t sz:Nat}{v:Value}{n:Nat}{xs:List Value}(h:w.ownsRow B t sz v n xs):n≤vcap v:=by
 rcases h.2 with⟨rfl,h1⟩ | ⟨g,cap,cur,rfl,_,_,hn,_⟩
 ·omega
 ·exact hn
theorem own_kw{w:World}{B:Nat}{t c:Nat}{v:Value}{n:Nat}{xs:List Value}(h:w.ownsRow B t c v n xs)(hk:0<vcap v):vaddr v=some ⟨vblk v,0,none⟩∧v.ownBlock=some (vblk v)∧Nf1 (vblk v) w∧(∀j,j<vcap v*c→∃u,w.cell? ⟨vblk v,j,none⟩=some u)∧B≤vblk v:=by
 rcases h.2 with⟨rfl,h1⟩ | ⟨g,cap,cur,rfl,hb,hg,hn,_,hs,_⟩
 ·simp [vcap] at hk
 ·refine⟨rfl,rfl,⟨(Array.getElem?_eq_some_iff.1 hg).1,fun j=>World.ownsRow.frozenAt h j⟩,fun j hj=>?_,hb⟩;have hj':j<cur.size:=by rw[hs];exact hj
  exact⟨cur[j],by rw[show vblk (.slice (some ⟨g,0,none⟩) n cap)=g from rfl,cell_of_row w g j cur _ _ hg];exact Array.getElem?_eq_getElem hj'⟩
theorem own_pw{w:World}{B:Nat}{v:Value}{n:Nat}{xs:List Value}(h:w.ownsRow B 154 6 v n xs)(hk:0<vcap v):vaddr v=some ⟨vblk v,0,none⟩∧v.ownBlock=some (vblk v)∧Nfp (vblk v) (vcap v) w∧B≤vblk v:=by
 rcases h.2 with⟨rfl,h1⟩ | ⟨g,cap,cur,rfl,hb,hg,hn,_,hs,_⟩
 ·simp [vcap] at hk
 ·refine⟨rfl,rfl,⟨(Array.getElem?_eq_some_iff.1 hg).1,fun j=>?_,fun j hj=>?_⟩,hb⟩
  ·exact World.ownsRow.frozenAt h j
  ·have hj':j<cur.size:=by rw[hs];exact hj
   exact⟨cur[j],by rw[show vblk (.slice (some ⟨g,0,none⟩) n cap)=g from rfl,cell_of_row w g j cur _ _ hg];exact Array.getElem?_eq_getElem hj'⟩
theorem Rws.of{B:Nat}{w:World}{x:Hp}{bc:Nat}{vr:Value}{pv:Nat→Value}(hr:w.ownsRow B 152 3 vr x.regs.length (x.regs.flatMap fW))(hs:∀q,q<x.cells.length→S7 w bc (q*8) (x.c q))(h7:∀q,q<x.cells.length→w.cell? ⟨bc,q*8+7,none⟩=some (pv q))(hc:0<x.cells.length→Nf1 bc w∧B≤bc)(hd:0<x.cells.length→vblk vr≠bc)
  (hp:∀q,q<x.cells.length→w.ownsRow B 154 6 (pv q) (x.c q).prs.length ((x.c q).prs.flatMap fP)∧∀b,(pv q).ownBlock=some b→b≠vblk vr∧b≠bc) (hdp:∀q q',q<x.cells.length→q'<x.cells.length→q≠q'→∀b,(pv q).ownBlock=some b→(pv q').ownBlock≠some b) :
  Rws B w x (vblk vr) bc (fun q=>vblk (pv q)) (fun q=>vaddr (pv q)) (fun q=>vcap (pv q)) where
 r:=fun i hi=>⟨own_at (f:=fW) (fun _=>rfl) hr i hi 0 (by omega),own_at (f:=fW) (fun _=>rfl) hr i hi 1 (by omega),own_at (f:=fW) (fun _=>rfl) hr i hi 2 (by omega)⟩
 s:=hs
 p7:=fun q hq=>by rw[h7 q hq,←(own_form (hp q hq).1).1]
 p:=fun q hq k hk=>by
  have:=own_at (f:=fP) (fun _=>rfl) (hp q hq).1 k hk;rw[Cl.p_eq _ _ hk] at this;exact⟨this 0 (by omega),this 1 (by omega),this 2 (by omega),this 3 (by omega),this 4 (by omega),this 5 (by omega)⟩
 pl:=fun q hq hl=>by
  obtain⟨h1,h2,h3,h4⟩:=own_pw (hp q hq).1 hl;exact⟨h1,h3,(hp q hq).2 _ h2,h4⟩
 nr:=fun hl=>own_nf hr hl
 nc:=hc
 d:=hd
 dp:=fun q q' hq hq' hne hl hl' e=>by
  have h1:=(own_pw (hp q hq).1 hl).2.1;have h2:=(own_pw (hp q' hq').1 hl').2.1;exact hdp q q' hq hq' hne _ h1 (by rw[h2,e])
 kp:=fun q hq=>own_kp (hp q hq).1
structure Cpl(w w4 wr:World)(x:Hp)(vr vc vg:Value)(pv vp:Nat→Value)(k:Nat):Prop where
 bx:HBox wr w.heap.size x vr vc vg
 s:∀q,q<x.cells.length→S7 wr (vblk vc) (q*8) (x.c q)
 p7:∀q,q<x.cells.length→wr.cell? ⟨vblk vc,q*8+7,none⟩=some (if q<k then pv q else vp q)
 pr:∀q,q<x.cells.length→q<k→wr.ownsRow w4.heap.size 154 6 (pv q) (x.c q).prs.length ((x.c q).prs.flatMap fP)
 dp:∀q q',q<k→q'<k→q≠q'→∀b,(pv q).ownBlock=some b→(pv q').ownBlock≠some b
 on:Only (fun q=>q=vblk vc∧0<x.cells.length) w4 wr
 nf:0<x.cells.length→Nf1 (vblk vc) wr
theorem Cpl.step{w w4 wr w5:World}{x:Hp}{vr vc vg v':Value}{pv vp:Nat→Value}{k:Nat}(h:Cpl w w4 wr x vr vc vg pv vp k)(hk:k<x.cells.length)(hvc:w.heap.size+2≤vblk vc∧vblk vc<w4.heap.size)(e:Ext wr w5)(ho:w5.ownsRow wr.heap.size 154 6 v' (x.c k).prs.length ((x.c k).prs.flatMap fP)):
  Cpl w w4 (w5.setCell ⟨vblk vc,k*8+7,none⟩ v') x vr vc vg (fun q=>if q=k then v' else pv q) vp (k+1):=by
 have h4:=h.on.size;have far:∀b,b≠vblk vc→(w5.setCell ⟨vblk vc,k*8+7,none⟩ v').heap[b]?=w5.heap[b]?:=fun b hb=>Below.heap_setCell _ _ _ _ hb
 refine⟨(h.bx.ext e).far _ _ _ (.inl (by omega)),fun q hq=>?_,fun q hq=>?_,fun q hq hqk=>?_,fun q q' hq hq' hne b hb=>?_,?_,fun hn=>((h.nf hn).ext e).set _ _⟩
 ·refine(h.s q hq).of fun j hj=>?_
  rw[cell_other _ (.inr (by omega))];exact e.cell (p:=⟨vblk vc,_,none⟩) (by show vblk vc<_;omega)
 ·by_cases hqk:q=k
  ·subst hqk;rw[if_pos (by omega),if_pos rfl];exact World.cell?_setCell_same _ _ _ (e.keep (h.p7 q hq))
  ·rw[cell_other _ (.inr (by omega)),if_neg hqk];have:=e.keep (h.p7 q hq);rw[this];by_cases hlt:q<k
   ·rw[if_pos hlt,if_pos (by omega)]
   ·rw[if_neg hlt,if_neg (by omega)]
 ·by_cases hqe:q=k
  ·subst hqe;simp only [if_pos];exact own_less (ownsRow_of_block ho (fun b hb=>far b (by have:=(ho.lt b hb).1;omega))) h4
  ·simp only [if_neg hqe];have hq2:=h.pr q hq (by omega);exact ownsRow_of_block hq2 (fun b hb=>(far b (by have:=(hq2.lt b hb).1;omega)).trans (e.block b (hq2.lt b hb).2))
 ·by_cases h1:q=k <;> by_cases h2:q'=k
  ·omega
  ·rw[if_pos h1] at hb;rw[if_neg h2];intro hb';have:=(ho.lt b hb).1;have:=((h.pr q' (by omega) (by omega)).lt b hb').2;omega
  ·rw[if_neg h1] at hb;rw[if_pos h2];intro hb';have:=(ho.lt b hb').1;have:=((h.pr q (by omega) (by omega)).lt b hb).2;omega
  ·rw[if_neg h1] at hb;rw[if_neg h2];exact h.dp q q' (by omega) (by omega) hne b hb
 ·exact(h.on.trans (Only.of_ext e)).setCell ⟨rfl,by omega⟩ _
theorem CvAt.ext{w w':World}(e:Ext w w'){b o:Nat}{z:Cl×Value}(h:CvAt w b o z):CvAt w' b o z:=fun j hj=>by
 have:=h j hj;cases hc:(fC z)[j]? with
 | none=>match j,hj with | 0,_ | 1,_ | 2,_ | 3,_ | 4,_ | 5,_ | 6,_ | 7,_=>simp [fC] at hc
 | some y=>rw[hc] at this;exact e.keep this
theorem Cpl.start{w w4:World}{B:Nat}{x:Hp}{vr vc vg v4:Value}{L:List (Cl×Value)}(hL:L.map (·.1)=x.cells)(hb:HBox w4 w.heap.size x vr v4 vg)(ho:w4.ownsRow B 62 8 vc L.length (L.flatMap fC))(hB:w.heap.size<B):
  Cpl w (w4.setCell ⟨w.heap.size,4,none⟩ vc) (w4.setCell ⟨w.heap.size,4,none⟩ vc) x vr vc vg (fun _=>.slice none 0 0) (fun q=>(L.getD q (Cl0,.slice none 0 0)).2) 0:=by
 have hLl:L.length=x.cells.length:=by rw[←hL,List.length_map]
 have hc:∀q,q<x.cells.length→∀j,j<8→(w4.setCell ⟨w.heap.size,4,none⟩ vc).cell? ⟨vblk vc,q*8+j,none⟩=(fC (L.getD q (Cl0,.slice none 0 0)))[j]?:=fun q hq j hj=>by
  have h1:=own_nf ho (by omega);rw[cell_other _ (.inl (by have:=h1.2;omega)),own_at (f:=fC) (fun _=>rfl) ho q (by omega) j hj]
  congr 2
  simp [hLl,hq]
 have h1:∀q,q<x.cells.length→(L.getD q (Cl0,.slice none 0 0)).1=x.c q:=fun q hq=>by
  have e:x.cells[q]=(L.map (·.1))[q]'(by simpa [hLl] using hq):=by simp [hL]
  rw[←Hp.c_eq x q hq,e];simp [hLl,hq]
 refine⟨hb.set4 vc,fun q hq=>?_,fun q hq=>?_,fun q _ hq=>by omega,fun q q' hq=>by omega,Only.refl _ _,fun hn=>(own_nf ho (by omega)).1.set _ _⟩
 ·have:=hc q hq;rw[←h1 q hq];exact⟨this 0 (by omega),this 1 (by omega),this 2 (by omega),this 3 (by omega),this 4 (by omega),this 5 (by omega),this 6 (by omega)⟩
 ·rw[if_neg (by omega)];exact hc q hq 7 (by omega)
def CapP(x:Hp)(pk:Nat→Nat):Prop:=∀q,q<x.cells.length→(x.c q).prs.length≤pk q
theorem own_capV{w:World}{B:Nat}{t:TypeId}{c n:Nat}{v:Value}{xs:List Value}(h:w.ownsRow B t c v n xs):n≤vcap v:=by
 rcases h.2 with⟨rfl,rfl⟩ | ⟨g,cap,cur,rfl,_,_,h4,_⟩
 ·exact Nat.le_refl _
 ·exact h4
def HOwn(B:Nat)(w:World)(x:Hp)(vr vc:Value):Prop:=∃br bc pb pa pk ar kr ac kc,vr=.slice ar x.regs.length kr∧(0<x.regs.length→ar=some ⟨br,0,none⟩)∧vc=.slice ac x.cells.length kc∧(0<x.cells.length→ac=some ⟨bc,0,none⟩)∧Rws B w x br bc pb pa pk∧CapP x pk
theorem HOwn.ext{B:Nat}{w w':World}{x:Hp}{vr vc:Value}(h:HOwn B w x vr vc)(e:Ext w w'):HOwn B w' x vr vc:=by
 obtain⟨br,bc,pb,pa,pk,ar,kr,ac,kc,h1,h2,h3,h4,h5,h6⟩:=h;exact⟨br,bc,pb,pa,pk,ar,kr,ac,kc,h1,h2,h3,h4,h5.ext e,h6⟩
theorem copied_any(x:Hp)(ag:Option Addr)(ng kg:Nat)(w:World){ar:Option Addr}{kr:Nat}{ac:Option Addr}{kc:Nat}(hR:SlW w (.slice ar x.regs.length kr) x.regs)(hC:SlC w (.slice ac x.cells.length kc) x.cells)(n1:x.regs.length≤1048576)(n2:x.cells.length≤8000)(n3:∀q,q<x.cells.length→(x.c q).prs.length≤200):
  Calls Tryz.prog 139 #[x.v (.slice ar x.regs.length kr) (.slice ac x.cells.length kc) (.slice ag ng kg)] w fun e w'=>∃vr vc,e=.returned (x.v vr vc (.slice ag ng kg))∧Hid (HOwn w.heap.size w' x vr vc)∧Ext w w':=by
 obtain⟨L,hL,hLs,hLp⟩:=slC_pick hC;have hLl:L.length=x.cells.length:=by rw[←hL,List.length_map]
 have HLS:=hide hLs;have HLP:=hide hLp;have HL:=hide hL;have SR:=hide hR;clear hR hC hL hLs hLp;have xa:=((Ext.refl w).alloc (.cells #[iv x.room,iv x.used,iv x.born,.slice ar x.regs.length kr,.slice ac x.cells.length kc,iv x.phase,iv x.hand,iv x.sub,(.slice ag ng kg),iv x.per,iv x.start,iv x.rounds,iv x.forced] 34)).alloc (.cells #[iv 0,iv 0,iv 0,.slice none 0 0,.slice none 0 0,iv 0,iv 0,iv 0,.slice none 0 0,iv 0,iv 0,iv 0,iv 0] 34);have B2:=(HBox.new w x (.slice ar x.regs.length kr) (.slice ac x.cells.length kc) (.slice ag ng kg) 34).ext ((Ext.refl _).alloc (.cells #[iv 0,iv 0,iv 0,.slice none 0 0,.slice none 0 0,iv 0,iv 0,iv 0,.slice none 0 0,iv 0,iv 0,iv 0,iv 0] 34));go_enter Tryz.func139,Tryz.ntmps139;go_wp2_with fail;refine(cloneW_any x.regs _ _ (SlW.ext xa (unhide SR)) n1).mono ?_;rintro e w3 ⟨vr,rfl,hor,q3⟩;obtain⟨avr,kvr,hvr⟩:∃a k,vr=.slice a x.regs.length k:=⟨_,_,(own_form hor).1⟩;subst hvr;have hz3:w.heap.size+2≤w3.heap.size:=by have:=q3.size;simp at this;omega
 have B3:=hide (B2.ext q3);have X3:=xa.trans q3;have OR:=hide hor;have c3:=(unhide B3).2.2.2.1;have c4:=(unhide B3).2.2.2.2.1;have fz:∀o,w3.frozen? ⟨w.heap.size,o,none⟩=false:=fun o=>((bcell q3).2 w.heap.size o (by simp;omega)).trans (by simp [go_sem])
 have f3:=fz 3;have FZ:=hide fz;have rc:=hide (show ∀o v,((w.alloc (.cells #[iv x.room,iv x.used,iv x.born,.slice ar x.regs.length kr,.slice ac x.cells.length kc,iv x.phase,iv x.hand,iv x.sub,(.slice ag ng kg),iv x.per,iv x.start,iv x.rounds,iv x.forced] 34)).alloc (.cells #[iv 0,iv 0,iv 0,.slice none 0 0,.slice none 0 0,iv 0,iv 0,iv 0,.slice none 0 0,iv 0,iv 0,iv 0,iv 0] 34)).cell? ⟨w.heap.size+1,o,none⟩=some v→w3.cell? ⟨w.heap.size+1,o,none⟩=some v from fun o v h=>q3.keep h);have RF:=hide (show ∀o,w3.frozen? ⟨w.heap.size+1,o,none⟩=false from fun o=>((bcell q3).2 (w.heap.size+1) o (by simp)).trans (by simp [go_sem]));clear hor fz B2 q3;go_wp2_with fail;have X3s:Ext w (w3.setCell ⟨w.heap.size,3,none⟩ (.slice avr x.regs.length kvr)):=X3.setCell (Nat.le_refl _) _;refine(cloneC_any L _ _ (by rw[←hLl];exact(show SlOf (CvAt _) 8 (.slice ac L.length kc) L from by have:=unhide HLS;rw[←hLl] at this;exact this.mono fun _ _ _ k=>k.ext X3s)) (fun z hz=>slP_one (unhide HLP z hz)) (by omega)).mono ?_;rintro e w4 ⟨vc,rfl,hoc,q4⟩;obtain⟨avc,kvc,hvc⟩:∃a k,vc=.slice a x.cells.length k:=⟨_,_,by have:=(own_form hoc).1;rw[hLl] at this;exact this⟩;subst hvc;have hs3:(w3.setCell ⟨w.heap.size,3,none⟩ (.slice avr x.regs.length kvr)).heap.size=w3.heap.size:=by simp [World.setCell]
 have B4:=hide (((unhide B3).set3 (.slice avr x.regs.length kvr)).ext q4);have ST:=hide (Cpl.start (unhide HL) (unhide B4) hoc (by omega));have CB:=hide (own_form hoc).2;have CN:=hide (fun h=>own_nf hoc h);have hz4:w3.heap.size≤w4.heap.size:=by have:=q4.size;omega
 have d4:=(unhide B4).2.2.2.2.1;have g4:w4.frozen? ⟨w.heap.size,4,none⟩=false:=((bcell q4).2 w.heap.size 4 (by omega)).trans (by rw[World.frozen?_setCell];exact unhide FZ 4);have FZ4:=hide (show ∀o,w4.frozen? ⟨w.heap.size,o,none⟩=false from fun o=>((bcell q4).2 w.heap.size o (by omega)).trans (by rw[World.frozen?_setCell];exact unhide FZ o));have X4:=X3s.trans q4;have Q4:=hide q4;clear hoc q4 c3 c4 f3 X3s;go_wp2_with fail;obtain⟨W5,hW5⟩:∃W,W=w4.setCell ⟨w.heap.size,4,none⟩ (.slice avc x.cells.length kvc):=⟨_,rfl⟩;rw[←hW5] at ST ⊢;have s5:W5.heap.size=w4.heap.size:=by rw[hW5];simp [World.setCell]
 have X5:Ext w W5:=by rw[hW5];exact X4.setCell (Nat.le_refl _) _
 have HW5:=hide hW5;clear hW5 d4 g4;go_loopw [15] (fun i wr=>∃(k:Nat) (pv:Nat→Value),k≤x.cells.length∧i=.int .i64 k∧Hid (Cpl w W5 wr x (.slice avr x.regs.length kvr) (.slice avc x.cells.length kvc) (.slice ag ng kg) pv (fun q=>(L.getD q (Cl0,.slice none 0 0)).2) k)) (fun i _=>x.cells.length-(intOf i).toNat)
 case atStart=>exact⟨0,_,Nat.zero_le _,rfl,unhide ST⟩
 case round=>
  clear ST;obtain⟨k,pv,hk,rfl,hcp⟩:=hrel;by_cases hlt:k<x.cells.length
  ·obtain⟨bc,hbc⟩:∃bc,avc=some ⟨bc,0,none⟩:=⟨_,(unhide CB (by omega)).1⟩;subst hbc;have hbc0:w3.heap.size≤bc∧bc<w4.heap.size:=by have h1:=(unhide CN (by omega)).2;have h2:=(unhide CN (by omega)).1.1;rw[hs3] at h1;exact⟨h1,h2⟩
   have XR:Ext w wr:=(unhide hcp).on.ext X5 (fun q hq e=>by have e1:q=bc:=e.1;omega)
   have hm:L.getD k (Cl0,.slice none 0 0)∈L:=by
    have:L.getD k (Cl0,.slice none 0 0)=L[k]'(by omega):=by simp [hLl,hlt]
    rw[this];exact List.getElem_mem _
   have h1:(L.getD k (Cl0,.slice none 0 0)).1=x.c k:=by
    have e:x.cells[k]=(L.map (·.1))[k]'(by simpa [hLl] using hlt):=by simp [unhide HL]
    rw[←Hp.c_eq x k hlt,e];simp [hLl,hlt]
   have sp0:=unhide HLP _ hm;rw[h1] at sp0;obtain⟨apk,kpk,hvk⟩:∃a c,(L.getD k (Cl0,.slice none 0 0)).2=.slice a (x.c k).prs.length c:=let ⟨a,c,e,_⟩:=sp0;⟨a,c,e⟩;rw[hvk] at sp0;have SP:=hide sp0
   have p7:wr.cell? ⟨bc,k*8+7,none⟩=some (.slice apk (x.c k).prs.length kpk):=by
    have:=(unhide hcp).p7 k hlt;rw[if_neg (by omega),hvk] at this;exact this
   have c4:wr.cell? ⟨w.heap.size,4,none⟩=some (.slice (some ⟨bc,0,none⟩) x.cells.length kvc):=(unhide hcp).bx.2.2.2.2.1;have f7:wr.frozen? ⟨bc,k*8+7,none⟩=false:=((unhide hcp).nf (by omega)).2 _;have hl2:=n3 k hlt;have hbw:bc<wr.heap.size:=cell_lt p7;have hk0:(0:Int)≤(k:Int):=by omega
   have hk1:(k:Int)<(x.cells.length:Int):=by omega
   have hne:¬w.heap.size=bc:=by omega
   have hne2:¬bc=w.heap.size:=by omega
   clear sp0 hm h1;go_wp2_with fail;go_region_with (go_at_call 212;refine(cloneP_any (x.c k).prs _ _ (SlP.ext XR.drew (unhide SP)) (by omega)).mono ?_;rintro e w6 ⟨v',rfl,hop,q6⟩;obtain⟨a',k',hv'⟩:∃a c,v'=.slice a (x.c k).prs.length c:=⟨_,_,(own_form hop).1⟩;subst hv';have q6:=Ext.trans ((Ext.refl wr).drew) q6;have d4:=q6.keep c4;have d7:=q6.keep p7;have g7:=((bcell q6).2 bc (k*8+7) hbw).trans f7;have R:=hide ((unhide hcp).step hlt ⟨by show w.heap.size+2≤bc;omega,by show bc<_;omega⟩ q6 hop);clear hop q6)
   all_goals
    go_wp2_with fail;go_roundw
    case rel=>exact⟨k+1,_,by omega,by go_num,unhide R⟩
    case measure=>simp [intOf];omega
  ·have hk2:k=x.cells.length:=by omega
   subst hk2
   have XR:Ext w wr:=(unhide hcp).on.ext X5 (fun q hq e=>by
    have e1:q=vblk (.slice avc x.cells.length kvc):=e.1;have h1:=(unhide CN (by have:=e.2;omega)).2;rw[hs3] at h1;omega)
   have hvc3:0<x.cells.length→w3.heap.size≤vblk (.slice avc x.cells.length kvc)∧vblk (.slice avc x.cells.length kvc)<w4.heap.size:=fun h=>by
    have h1:=(unhide CN (by omega)).2;rw[hs3] at h1;exact⟨h1,(unhide CN (by omega)).1.1⟩
   have WB:∀b,b<w3.heap.size→b≠w.heap.size→wr.heap[b]?=w3.heap[b]?:=fun b hb hne=>by
    have e1:w4.heap[b]?=w3.heap[b]?:=((unhide Q4).block b (by rw[hs3];exact hb)).trans (Below.heap_setCell _ _ _ _ hne);have e2:W5.heap[b]?=w4.heap[b]?:=by rw[unhide HW5];exact Below.heap_setCell _ _ _ _ hne
    exact((unhide hcp).on.block b (by omega) (fun e=>by have e1:b=vblk (.slice avc x.cells.length kvc):=e.1;have:=(hvc3 e.2).1;omega)).trans (e2.trans e1)
   have RW:=hide (show Rws (w.heap.size+2) wr x _ _ _ _ _ from by
    have hb0:∀b,(Value.slice avr x.regs.length kvr).ownBlock=some b→w.heap.size+2≤b∧b<w3.heap.size:=fun b hb=>by have:=(unhide OR).lt b hb;simp at this;omega
    have hvb:vblk (.slice avr x.regs.length kvr)<w3.heap.size:=by
     unfold vblk;cases e:(Value.slice avr x.regs.length kvr).ownBlock with
     | none=>simp;omega
     | some b=>simp;exact(hb0 b e).2
    refine Rws.of (vr:=.slice avr x.regs.length kvr) (bc:=vblk (.slice avc x.cells.length kvc)) (pv:=pv) (ownsRow_of_block (own_less (unhide OR) (by simp)) (fun b hb=>WB b (hb0 b hb).2 (by have:=(hb0 b hb).1;omega))) (unhide hcp).s (fun q hq=>by have:=(unhide hcp).p7 q hq;rw[if_pos hq] at this;exact this) (fun h=>⟨(unhide hcp).nf h,by have:=(hvc3 h).1;omega⟩) (fun h=>by have:=(hvc3 h).1;omega) (fun q hq=>⟨own_less ((unhide hcp).pr q hq hq) (by omega),fun b hb=>?_⟩) (fun q q' hq hq' hne b hb=>(unhide hcp).dp q q' hq hq' hne b hb);have h1:=(((unhide hcp).pr q hq hq).lt b hb).1;have h2:=hvc3 (by omega);omega)
   have RG:=hide (own_form (unhide OR)).2;have CP:=hide (show CapP x (fun q=>vcap (pv q)) from fun q hq=>own_capV ((unhide hcp).pr q hq hq))
   have rcell:∀o v,((w.alloc (.cells #[iv x.room,iv x.used,iv x.born,.slice ar x.regs.length kr,.slice ac x.cells.length kc,iv x.phase,iv x.hand,iv x.sub,(.slice ag ng kg),iv x.per,iv x.start,iv x.rounds,iv x.forced] 34)).alloc (.cells #[iv 0,iv 0,iv 0,.slice none 0 0,.slice none 0 0,iv 0,iv 0,iv 0,.slice none 0 0,iv 0,iv 0,iv 0,iv 0] 34)).cell? ⟨w.heap.size+1,o,none⟩=some v→wr.cell? ⟨w.heap.size+1,o,none⟩=some v:=fun o v h=>
    (World.cell?_of_block (a:=⟨w.heap.size+1,o,none⟩) (WB (w.heap.size+1) (by omega) (by omega))).trans (unhide rc o v h)
   have rfz:∀o,wr.frozen? ⟨w.heap.size+1,o,none⟩=false:=fun o=>(World.frozen?_of_block (a:=⟨w.heap.size+1,o,none⟩) (WB (w.heap.size+1) (by omega) (by omega))).trans (unhide RF o)
   have r0:=rcell 0 (iv 0) (by simp [go_sem]);have r1:=rcell 1 (iv 0) (by simp [go_sem]);have r2:=rcell 2 (iv 0) (by simp [go_sem]);have r3:=rcell 3 (.slice none 0 0) (by simp [go_sem]);have r4:=rcell 4 (.slice none 0 0) (by simp [go_sem]);have r5:=rcell 5 (iv 0) (by simp [go_sem]);have r6:=rcell 6 (iv 0) (by simp [go_sem]);have r7:=rcell 7 (iv 0) (by simp [go_sem]);have r8:=rcell 8 (.slice none 0 0) (by simp [go_sem]);have r9:=rcell 9 (iv 0) (by simp [go_sem]);have r10:=rcell 10 (iv 0) (by simp [go_sem]);have r11:=rcell 11 (iv 0) (by simp [go_sem]);have r12:=rcell 12 (iv 0) (by simp [go_sem]);have f0:=rfz 0;have f1:=rfz 1;have f2:=rfz 2;have f3:=rfz 3;have f4:=rfz 4;have f5:=rfz 5;have f6:=rfz 6;have f7:=rfz 7;have f8:=rfz 8;have f9:=rfz 9;have f10:=rfz 10;have f11:=rfz 11;have f12:=rfz 12;obtain⟨b0,b1,b2,b3,b4,b5,b6,b7,b8,b9,b10,b11,b12⟩:=(unhide hcp).bx;have hb0:w.heap.size<wr.heap.size:=cell_lt b0;have hr0:w.heap.size+1<wr.heap.size:=cell_lt r0;clear hcp rcell rfz WB hvc3;go_wp2_with fail;refine bodyPost_ret (v:=x.v (.slice avr x.regs.length kvr) (.slice avc x.cells.length kvc) (.slice ag ng kg)) (by simp [results,Tryz.results139,go_sem,r0,r1,r2,r3,r4,r5,r6,r7,r8,r9,r10,r11,r12]) rfl ⟨_,_,rfl,?_⟩;refine(fun(F:Only (fun q=>q=w.heap.size+1) wr _)=>⟨⟨_,_,_,_,_,_,_,_,_,rfl,fun h=>(unhide RG h).1,rfl,fun h=>(unhide CB (by omega)).1,((unhide RW).only F (fun h e=>by have:=((unhide RW).nr h).2;omega) (fun h e=>by have:=((unhide RW).nc h).2;omega) (fun q hq hl e=>by have:=((unhide RW).pl q hq hl).2.2.2;omega)).less (by omega),unhide CP⟩,F.ext XR (fun q hq e=>by omega)⟩) ?_
   repeat (first | refine Only.setCell ?_ (by simp) _ | exact Only.refl _ _)
def Grw(w:World)(B:Nat)(v:Value)(G:List Int):Prop:=
 (v=.slice none 0 0∧G=[])∨∃gb go cap cur,v=.slice (some ⟨gb,go,none⟩) G.length cap∧B≤gb∧w.heap[gb]?=some (.cells cur 3 (0,0))∧G.length≤cap∧go+cap≤cur.size∧(cur.toList.drop go).take G.length=G.map iv
theorem Grw.lt{w:World}{B:Nat}{v:Value}{G:List Int}(h:Grw w B v G):∀k,v.ownBlock=some k→B≤k∧k<w.heap.size:=by
 intro k hk;rcases h with⟨rfl,_⟩ | ⟨gb,go,cap,cur,rfl,hb,hg,_⟩
 ·simp [Value.ownBlock] at hk
 ·simp [Value.ownBlock] at hk;subst hk;exact⟨hb,(Array.getElem?_eq_some_iff.1 hg).1⟩
theorem Grw.block{w w':World}{B:Nat}{v:Value}{G:List Int}(h:Grw w B v G)(hb:∀k,v.ownBlock=some k→w'.heap[k]?=w.heap[k]?):Grw w' B v G:=by
 rcases h with h | ⟨gb,go,cap,cur,rfl,h1,hg,h2⟩
 ·exact .inl h
 ·exact .inr ⟨gb,go,cap,cur,rfl,h1,by rw[hb gb rfl];exact hg,h2⟩
theorem Grw.form{w:World}{B:Nat}{v:Value}{G:List Int}(h:Grw w B v G):∃a k,v=.slice a G.length k:=by
 rcases h with⟨rfl,rfl⟩ | ⟨gb,go,cap,cur,rfl,_⟩
 ·exact⟨none,0,rfl⟩
 ·exact⟨_,_,rfl⟩
theorem Grw.of{w:World}{B:Nat}{v:Value}{G:List Int}(h:w.ownsRow B 3 1 v G.length (G.map iv)):Grw w B v G:=by
 rcases h.2 with⟨h0,h1⟩ | ⟨g,cap,cur,h0,hb,hg,hn,_,hs,ht⟩
 ·exact .inl ⟨h0,List.eq_nil_of_length_eq_zero h1⟩
 ·exact .inr ⟨g,0,cap,cur,h0,hb,hg,hn,by omega,by simpa using ht⟩
theorem Grw.at{w:World}{B:Nat}{a:Option Addr}{k:Nat}{G:List Int}(h:Grw w B (.slice a G.length k) G)(i:Nat)(hi:i<G.length):∃gb go,a=some ⟨gb,go,none⟩∧w.cell? ⟨gb,go+i,none⟩=some (iv G[i])∧B≤gb:=by
 rcases h with⟨_,rfl⟩ | ⟨gb,go,cap,cur,e,hb,hg,hn,hs,ht⟩
 ·simp at hi
 ·simp only [Value.slice.injEq] at e;refine⟨gb,go,e.1,?_,hb⟩;rw[cell_of_row w gb (go+i) cur _ _ hg,←Array.getElem?_toList];have h1:((cur.toList.drop go).take G.length)[i]?=(G.map iv)[i]?:=by rw[ht]
  rw[List.getElem?_take_of_lt hi,List.getElem?_drop] at h1;rw[h1];simp [hi]
structure CS(x:Hp)(w3 w6 wr:World)(vr vc vg:Value)(k:Nat)(L:List (Cl×Value)):Prop where
 own:wr.ownsRow w6.heap.size 62 8 vc k (L.flatMap fC)
 eq:L.map (·.1)=x.cells.take k
 prs:∀z,z∈L→wr.ownsRow w6.heap.size 154 6 z.2 z.1.prs.length (z.1.prs.flatMap fP)∧∀q,z.2.ownBlock=some q→vc.ownBlock≠some q
 dis:∀i j (hi:i<L.length) (hj:j<L.length),i≠j→∀q,L[i].2.ownBlock=some q→L[j].2.ownBlock≠some q
 bx:HBox wr w3.heap.size x vr vc vg
 fz:∀o,wr.frozen? ⟨w3.heap.size,o,none⟩=false
 on:Only (fun q=>q=w3.heap.size) w6 wr
 ex:Ext w3 wr
 lt:w3.heap.size<w6.heap.size
theorem CS.ext{x:Hp}{w3 w6 wr w':World}{vr vc vg:Value}{k:Nat}{L:List (Cl×Value)}(h:CS x w3 w6 wr vr vc vg k L)(e:Ext wr w'):CS x w3 w6 w' vr vc vg k L where
 own:=ownsRow_of_block h.own (fun q hq=>e.block q (h.own.lt q hq).2)
 eq:=h.eq
 prs:=fun z hz=>⟨ownsRow_of_block (h.prs z hz).1 (fun q hq=>e.block q ((h.prs z hz).1.lt q hq).2),(h.prs z hz).2⟩
 dis:=h.dis
 bx:=h.bx.ext e
 fz:=fun o=>((bcell e).2 _ o (Nat.lt_of_lt_of_le h.lt h.on.size)).trans (h.fz o)
 on:=h.on.trans ⟨e.os,e.tape,e.output,e.size,fun q hq _=>e.block q hq⟩
 ex:=h.ex.trans e
 lt:=h.lt
theorem CS.len{x:Hp}{w3 w6 wr:World}{vr vc vg:Value}{k:Nat}{L:List (Cl×Value)}(h:CS x w3 w6 wr vr vc vg k L)(hk:k≤x.cells.length):L.length=k:=by
 have:=congrArg List.length h.eq
 simpa [Nat.min_eq_left hk] using this
theorem CS.push{x:Hp}{w3 w6 W w5:World}{vr vc vg v':Value}{k B7 g:Nat}{L:List (Cl×Value)}{z:Cl×Value}(h:CS x w3 w6 W vr vc vg k L)(hk:k<x.cells.length)(hz:z.1=x.cells[k])(hg:W.grownBy w5 vc.ownBlock)(h5:w5.ownsRow w6.heap.size 62 8 v' (k+1) (L.flatMap fC++fC z))
  (hv':v'.ownBlock=some g) (hat:vc.ownBlock=some g∨g=W.heap.size) (hp:W.ownsRow B7 154 6 z.2 z.1.prs.length (z.1.prs.flatMap fP)) (h7:w6.heap.size≤B7) (hvn:∀q,vc.ownBlock=some q→q<B7) (hvp:∀y,y∈L→∀q,y.2.ownBlock=some q→q<B7) :
  CS x w3 w6 (w5.setCell ⟨w3.heap.size,4,none⟩ v') vr v' vg (k+1) (L++[z]):=by
 have hbW:w3.heap.size<W.heap.size:=Nat.lt_of_lt_of_le h.lt h.on.size;obtain⟨b1,b2,b3,b4,b5,b6⟩:=box_push (o:=4) (u:=v') (bg:=w3.heap.size) h.lt h.ex h.own (Nat.le_refl _) hbW hg h5
 have key:∀y,y∈L++[z]→W.ownsRow w6.heap.size 154 6 y.2 y.1.prs.length (y.1.prs.flatMap fP)∧∀q,y.2.ownBlock=some q→vc.ownBlock≠some q:=fun y hy=>by
  rcases List.mem_append.1 hy with q | q
  ·exact h.prs y q
  ·rw[List.mem_singleton] at q;subst q;exact⟨own_less hp h7,fun q e e'=>by have:=(hp.lt q e).1;have:=hvn q e';omega⟩
 have hb:HBox w5 w3.heap.size x vr vc vg:=h.bx.block (hg.block w3.heap.size hbW (fun e=>by have:=(h.own.lt _ e.symm).1;have:=h.lt;omega));refine⟨by simpa using b1,?_,fun y hy=>?_,fun i j hi hj hne q e e'=>?_,hb.set4 v',fun o=>(b4 o).trans (h.fz o),?_,b2,h.lt⟩
 ·rw[List.map_append,h.eq,List.take_succ_eq_append_getElem hk];simp [hz]
 ·have kk:=key y hy;refine⟨ownsRow_of_block kk.1 (fun q hq=>b6 q (kk.1.lt q hq).2 (fun e=>by have:=(kk.1.lt q hq).1;have:=h.lt;omega) (kk.2 q hq)),fun q e e'=>?_⟩;rw[hv'] at e'
  injection e' with e'
  subst e';rcases hat with r | r
  ·exact kk.2 g e r
  ·have:=(kk.1.lt g e).2;omega
 ·simp only [List.getElem_append] at e e';simp at hi hj;by_cases hi':i<L.length <;> by_cases hj':j<L.length
  ·simp only [hi',hj',dite_true] at e e';exact h.dis i j hi' hj' hne q e e'
  ·simp only [hi',hj',dite_true,dite_false,List.getElem_singleton] at e e';have:=hvp _ (List.getElem_mem hi') q e;have:=(hp.lt q e').1;omega
  ·simp only [hi',hj',dite_true,dite_false,List.getElem_singleton] at e e';have:=hvp _ (List.getElem_mem hj') q e';have:=(hp.lt q e).1;omega
  ·omega
 ·exact⟨hg.os.trans h.on.os,hg.tape.trans h.on.tape,hg.output.trans h.on.output,by have:=hg.size;have:=h.on.size;simp only [World.setCell,Array.size_modify];omega,fun q hq hne=>(b6 q (Nat.lt_of_lt_of_le hq h.on.size) hne (fun e=>by have:=(h.own.lt q e).1;omega)).trans (h.on.block q hq hne)⟩
structure CB(wr W:World)(c:Cl)(ap:Option Addr)(kp:Nat)(v:Value):Prop where
 p7:W.cell? ⟨wr.heap.size,7,none⟩=some (.slice ap c.prs.length kp)
 n:S7 W (wr.heap.size+1) 0 c
 n7:W.cell? ⟨wr.heap.size+1,7,none⟩=some v
 f:∀o,W.frozen? ⟨wr.heap.size+1,o,none⟩=false
 ex:Ext wr W
theorem CB.ext{wr W W':World}{c:Cl}{ap:Option Addr}{kp:Nat}{v:Value}(h:CB wr W c ap kp v)(e:Ext W W'):CB wr W' c ap kp v:=
 ⟨e.keep h.p7,h.n.of fun _ _=>e.cell (p:=⟨wr.heap.size+1,_,none⟩) (show wr.heap.size+1<W.heap.size from cell_lt h.n7),e.keep h.n7,fun o=>((bcell e).2 _ o (cell_lt h.n7)).trans (h.f o),h.ex.trans e⟩
theorem CB.push{wr W w5:World}{c:Cl}{ap:Option Addr}{kp:Nat}{v v':Value}{B7 n n':Nat}{xs ys:List Value}(h:CB wr W c ap kp v)(hW:W.ownsRow B7 154 6 v n xs)(h7:wr.heap.size+1<B7)(hg:W.grownBy w5 v.ownBlock)(h5:w5.ownsRow B7 154 6 v' n' ys):
  (w5.setCell ⟨wr.heap.size+1,7,none⟩ v').ownsRow B7 154 6 v' n' ys∧CB wr (w5.setCell ⟨wr.heap.size+1,7,none⟩ v') c ap kp v':=by
 obtain⟨b1,b2,b3,b4,b5,b6⟩:=box_push (o:=7) (u:=v') (bg:=wr.heap.size+1) h7 h.ex hW (Nat.le_succ _) (cell_lt h.n7) hg h5;refine⟨b1,?_,h.n.of fun j hj=>b3 _ (by omega),b5 _ h.n7,fun o=>(b4 o).trans (h.f o),b2⟩;exact(World.cell?_of_block (a:=⟨wr.heap.size,7,none⟩) (b6 wr.heap.size (cell_lt h.p7) (by omega) (fun e=>by have:=(hW.lt _ e).1;omega))).trans h.p7
theorem CB.start(wr:World)(c:Cl)(ap:Option Addr)(kp:Nat)(t1 t2:TypeId):CB wr ((wr.alloc (.cells #[iv c.st,iv c.kind,iv c.weak,iv c.last,iv c.born,iv c.color,iv c.to,.slice ap c.prs.length kp] t1)).alloc (.cells #[iv c.st,iv c.kind,iv c.weak,iv c.last,iv c.born,iv c.color,iv c.to,.slice none 0 0] t2)) c ap kp (.slice none 0 0):=
 ⟨by simp [go_sem],⟨by simp [go_sem],by simp [go_sem],by simp [go_sem],by simp [go_sem],by simp [go_sem],by simp [go_sem],by simp [go_sem]⟩,by simp [go_sem],fun o=>by simp [go_sem],((Ext.refl wr).alloc _).alloc _⟩
theorem own_cap{w:World}{B:Nat}{t sz:Nat}{a:Option Addr}{n k:Nat}{xs:List Value}(h:w.ownsRow B t sz (.slice a n k) n xs):n≤k:=by
 rcases h.2 with⟨h0,h1⟩ | ⟨g,cap,cur,h0,_,_,hn,_⟩
 ·omega
 ·simp only [Value.slice.injEq] at h0;omega
structure GSep(x:Hp)(role:Nat→Nat)(g br bc:Nat)(pb pk:Nat→Nat)(vg:Value):Prop where
 g:role g=0
 r:0<x.regs.length→role br=2
 c:0<x.cells.length→role bc=3
 y:∀q,vg.ownBlock=some q→role q=4
 p:∀q,q<x.cells.length→0<pk q→role (pb q)=6+q
structure Ccp(B:Nat)(w:World)(ac:Option Addr)(bc kc:Nat)(role:Nat→Nat):Prop where
 ad:ac=some ⟨bc,0,none⟩
 ro:role bc=3
 nf:Nf1 bc w
 cp:∀j,j<kc*8→∃v,w.cell? ⟨bc,j,none⟩=some v
 lo:B≤bc
theorem Ccp.cells{B:Nat}{w w':World}{ac:Option Addr}{bc kc:Nat}{role role':Nat→Nat}(h:Ccp B w ac bc kc role)(hr:role' bc=role bc)(n:Nf1 bc w')(c:∀j v,j<kc*8→w.cell? ⟨bc,j,none⟩=some v→∃u,w'.cell? ⟨bc,j,none⟩=some u):Ccp B w' ac bc kc role':=
 ⟨h.ad,hr.trans h.ro,n,fun j hj=>let ⟨v,hv⟩:=h.cp j hj;c j v hj hv,h.lo⟩
theorem Ccp.block{B:Nat}{w w':World}{ac:Option Addr}{bc kc:Nat}{role role':Nat→Nat}(h:Ccp B w ac bc kc role)(hr:role' bc=role bc)(hb:w'.heap[bc]?=w.heap[bc]?)(hs:w.heap.size≤w'.heap.size):Ccp B w' ac bc kc role':=
 h.cells hr (nf1_block h.nf hb hs) (fun j v _ hv=>⟨v,(World.cell?_of_block (a:=⟨bc,j,none⟩) hb).trans hv⟩)
theorem S7.some{w:World}{b o:Nat}{c:Cl}(h:S7 w b o c)(j:Nat)(hj:j<7):∃v,w.cell? ⟨b,o+j,none⟩=some v:=by
 obtain⟨h0,h1,h2,h3,h4,h5,h6⟩:=h
 match j,hj with
 | 0,_=>exact⟨_,h0⟩
 | 1,_=>exact⟨_,h1⟩
 | 2,_=>exact⟨_,h2⟩
 | 3,_=>exact⟨_,h3⟩
 | 4,_=>exact⟨_,h4⟩
 | 5,_=>exact⟨_,h5⟩
 | 6,_=>exact⟨_,h6⟩
structure GAt[Inhabited ProtD](B:Nat)(w:World)(g:Nat)(x:Hp)(ar:Option Addr)(kr:Nat)(ac:Option Addr)(kc:Nat)(vg:Value)(br bc:Nat)(pb:Nat→Nat)(pa:Nat→Option Addr)(pk:Nat→Nat)(role:Nat→Nat):Prop where
 bx:HBox w g x (.slice ar x.regs.length kr) (.slice ac x.cells.length kc) vg
 nf:Nf1 g w
 lo:B≤g
 ha:0<x.regs.length→ar=some ⟨br,0,none⟩
 hc:0<x.cells.length→ac=some ⟨bc,0,none⟩
 rw:Rws B w x br bc pb pa pk
 gr:Grw w B vg x.gray
 sp:GSep x role g br bc pb pk vg
 kl:x.cells.length≤kc
 pr:Prt w role
 cc:0<kc→Ccp B w ac bc kc role
theorem GAt.ext[Inhabited ProtD]{B:Nat}{w w':World}{g:Nat}{x:Hp}{ar:Option Addr}{kr:Nat}{ac:Option Addr}{kc:Nat}{vg:Value}{br bc:Nat}{pb:Nat→Nat}{pa:Nat→Option Addr}{pk:Nat→Nat}{role:Nat→Nat}(h:GAt B w g x ar kr ac kc vg br bc pb pa pk role)(e:Ext w w'):GAt B w' g x ar kr ac kc vg br bc pb pa pk role:=
 ⟨h.bx.ext e,h.nf.ext e,h.lo,h.ha,h.hc,h.rw.ext e,h.gr.block (fun q hq=>e.block q (h.gr.lt q hq).2),h.sp,h.kl,h.pr.of (fun q hq _=>e.block q hq) (fun _ _ h=>h),fun hk=>(h.cc hk).block rfl (e.block bc (h.cc hk).nf.1) e.size⟩
theorem GAt.start[Inhabited ProtD](hz:∀q,(default:ProtD).z q=none){x:Hp}{w3 w6 wr w7:World}{B:Nat}{ar:Option Addr}{kr:Nat}{ac:Option Addr}{kc:Nat}{vg0 vg:Value}{L:List (Cl×Value)}(h:CS x w3 w6 wr (.slice ar x.regs.length kr) (.slice ac x.cells.length kc) vg0 x.cells.length L)(hr:wr.ownsRow (w3.heap.size+1) 152 3 (.slice ar x.regs.length kr) x.regs.length (x.regs.flatMap fW))(hr6:∀q,(Value.slice ar x.regs.length kr).ownBlock=some q→q<w6.heap.size)
  (h0:0<x.regs.length) (hB:B≤w3.heap.size) (o7:Only (fun q=>q=w3.heap.size) wr w7) (hb7:HBox w7 w3.heap.size x (.slice ar x.regs.length kr) (.slice ac x.cells.length kc) vg) (f7:Nf1 w3.heap.size w7) (hg:w7.ownsRow wr.heap.size 3 1 vg x.gray.length (x.gray.map iv)) :
  ∃br bc pb pa pk role,GAt B w7 w3.heap.size x ar kr ac kc vg br bc pb pa pk role:=by
 have hll:L.length=x.cells.length:=h.len (Nat.le_refl _);have eL:L.map (·.1)=x.cells:=by rw[h.eq,List.take_length]
 have hlt:=h.lt;have hon:=h.on.size
 have l1:∀q (hq:q<x.cells.length),(L.getD q (Cl0,.slice none 0 0))∈L∧(L.getD q (Cl0,.slice none 0 0)).1=x.c q∧(L.getD q (Cl0,.slice none 0 0))=L[q]'(by omega):=fun q hq=>by
  have e0:L.getD q (Cl0,.slice none 0 0)=L[q]'(by omega):=by simp [hll,hq]
  refine⟨by rw[e0];exact List.getElem_mem _,?_,e0⟩;have e:x.cells[q]=(L.map (·.1))[q]'(by simpa [hll] using hq):=by simp [eL]
  rw[←Hp.c_eq x q hq,e,e0];simp
 have own8:0<x.cells.length→Nf1 (vblk (.slice ac x.cells.length kc)) wr∧w6.heap.size≤vblk (.slice ac x.cells.length kc):=fun hn=>own_nf h.own hn
 have cell8:∀q,q<x.cells.length→∀j,j<8→wr.cell? ⟨vblk (.slice ac x.cells.length kc),q*8+j,none⟩=(fC (L.getD q (Cl0,.slice none 0 0)))[j]?:=fun q hq j hj=>by
  have:=own_at (f:=fC) (fun _=>rfl) (L:=L) (by rw[hll];exact h.own) q (by omega) j hj;rw[this,(l1 q hq).2.2]
 have hbr:=own_nf hr h0;have hbr6:vblk (.slice ar x.regs.length kr)<w6.heap.size:=hr6 _ ((own_form hr).2 h0).2
 have prs:∀q,q<x.cells.length→wr.ownsRow w6.heap.size 154 6 (L.getD q (Cl0,.slice none 0 0)).2 (x.c q).prs.length ((x.c q).prs.flatMap fP)∧∀b,(L.getD q (Cl0,.slice none 0 0)).2.ownBlock=some b→(Value.slice ac x.cells.length kc).ownBlock≠some b:=fun q hq=>by
  have:=h.prs _ (l1 q hq).1;rw[(l1 q hq).2.1] at this;exact this
 have dis:∀q q',q<x.cells.length→q'<x.cells.length→q≠q'→∀b,(L.getD q (Cl0,.slice none 0 0)).2.ownBlock=some b→(L.getD q' (Cl0,.slice none 0 0)).2.ownBlock≠some b:=fun q q' hq hq' hne b hb=>by
  rw[(l1 q hq).2.2] at hb;rw[(l1 q' hq').2.2];exact h.dis q q' (by omega) (by omega) hne b hb
 have RW:=Rws.of (B:=w3.heap.size+1) (w:=wr) (x:=x) (vr:=.slice ar x.regs.length kr) (bc:=vblk (.slice ac x.cells.length kc)) (pv:=fun q=>(L.getD q (Cl0,.slice none 0 0)).2) hr (fun q hq=>by
   rw[←(l1 q hq).2.1];have:=cell8 q hq
   exact⟨this 0 (by omega),this 1 (by omega),this 2 (by omega),this 3 (by omega),this 4 (by omega),this 5 (by omega),this 6 (by omega)⟩) (fun q hq=>cell8 q hq 7 (by omega)) (fun hn=>⟨(own8 hn).1,by have:=(own8 hn).2;omega⟩) (fun hn=>by have:=(own8 hn).2;omega) (fun q hq=>⟨own_less (prs q hq).1 (by omega),fun b hb=>⟨by have:=((prs q hq).1.lt b hb).1;omega,fun e=>by
    have hn:0<x.cells.length:=by omega
    exact(prs q hq).2 b hb (by rw[((own_form h.own).2 hn).2,e])⟩⟩) dis
 have RW7:=RW.only o7 (fun hl e=>by have:=(RW.nr hl).2;omega) (fun hl e=>by have:=(RW.nc hl).2;omega) (fun q hq hl e=>by have:=(RW.pl q hq hl).2.2.2;omega)
 refine⟨_,_,_,_,_,fun q=>if q=w3.heap.size then 0 else if wr.heap.size≤q then 4 else if q=vblk (.slice ar x.regs.length kr) then 2 else if 0<kc∧q=vblk (.slice ac x.cells.length kc) then 3 else
  (open Classical in if h:∃i,i<x.cells.length∧0<vcap (L.getD i (Cl0,.slice none 0 0)).2∧vblk (L.getD i (Cl0,.slice none 0 0)).2=q then 6+Classical.choose h else 5),hb7,f7,hB,fun h=>((own_form hr).2 h).1,fun hn=>((own_form h.own).2 hn).1,RW7.less (by omega),Grw.of (own_less hg (by omega)),⟨if_pos rfl,fun hl=>?_,fun hl=>?_,fun q hq=>?_,fun q hq hl=>?_⟩,own_cap h.own,fun q o h=>(by rw[hz q] at h;cases h),fun hk=>?_⟩
 ·have:=(RW.nr hl).2;have:=(RW.nr hl).1.1;rw[if_neg (by omega),if_neg (by omega),if_pos rfl]
 ·have:=(RW.nc hl).2;have:=(RW.nc hl).1.1;rw[if_neg (by omega),if_neg (by omega),if_neg (fun e=>RW.d hl e.symm),if_pos ⟨Nat.lt_of_lt_of_le hl (own_cap h.own),rfl⟩]
 ·have:=(hg.lt q hq).1;rw[if_neg (by omega),if_pos (by omega)]
 ·have l2:=RW.pl q hq hl;have:=l2.2.2.2;have:=l2.2.1.1;have hex:∃i,i<x.cells.length∧0<vcap (L.getD i (Cl0,.slice none 0 0)).2∧vblk (L.getD i (Cl0,.slice none 0 0)).2=vblk (L.getD q (Cl0,.slice none 0 0)).2:=⟨q,hq,hl,rfl⟩;rw[if_neg (by omega),if_neg (by omega),if_neg l2.2.2.1.1,if_neg (fun e=>l2.2.2.1.2 e.2),dif_pos hex];have sp:=Classical.choose_spec hex
  have:Classical.choose hex=q:=by
   rcases Nat.decEq (Classical.choose hex) q with h | h
   ·exact absurd sp.2.2 (RW.dp _ q sp.1 hq h sp.2.1 hl)
   ·exact h
  rw[this]
 ·have hk2:0<vcap (.slice ac x.cells.length kc):=hk;obtain⟨k1,k2,k3,k4,k5⟩:=own_kw h.own hk2;have e7:=o7.block (vblk (.slice ac x.cells.length kc)) k3.1 (fun e=>by omega);refine⟨k1,?_,nf1_block k3 e7 o7.size,fun j hj=>?_,by omega⟩
  ·have:=k3.1;rw[if_neg (by omega),if_neg (by omega),if_neg (by omega),if_pos ⟨hk,rfl⟩]
  ·obtain⟨u,hu⟩:=k4 j hj;exact⟨u,(World.cell?_of_block (a:=⟨_,j,none⟩) e7).trans hu⟩
def GOk[Inhabited ProtD](B:Nat)(w:World)(g:Nat)(x:Hp):Prop:=∃ar kr ac kc vg br bc pb pa pk role,GAt B w g x ar kr ac kc vg br bc pb pa pk role
theorem GOk.ext[Inhabited ProtD]{B:Nat}{w w':World}{g:Nat}{x:Hp}(h:GOk B w g x)(e:Ext w w'):GOk B w' g x:=by
 obtain⟨ar,kr,ac,kc,vg,br,bc,pb,pa,pk,role,h⟩:=h;exact⟨ar,kr,ac,kc,vg,br,bc,pb,pa,pk,role,h.ext e⟩
theorem GAt.boxed[Inhabited ProtD]{B:Nat}{w w':World}{g:Nat}{x x':Hp}{ar:Option Addr}{kr:Nat}{ac:Option Addr}{kc:Nat}{vg:Value}{br bc:Nat}{pb:Nat→Nat}{pa:Nat→Option Addr}{pk:Nat→Nat}{role:Nat→Nat}(h:GAt B w g x ar kr ac kc vg br bc pb pa pk role)(o:Only (fun q=>q=g) w w')(nf:Nf1 g w')(hr:x'.regs=x.regs)(hc:x'.cells=x.cells)(hg:x'.gray=x.gray)(bx:HBox w' g x' (.slice ar x.regs.length kr) (.slice ac x.cells.length kc) vg):GAt B w' g x' ar kr ac kc vg br bc pb pa pk role:=by
 have far:∀q,q<w.heap.size→role q≠0→w'.heap[q]?=w.heap[q]?:=fun q hq hn=>o.block q hq (fun e=>hn (by rw[e];exact h.sp.g))
 have cc:∀q,x'.c q=x.c q:=fun q=>by simp only [Hp.c,hc]
 have rw2:=h.rw.same o.size (fun hl=>far br (h.rw.nr hl).1.1 (by rw[h.sp.r hl];omega)) (fun hl=>far bc (h.rw.nc hl).1.1 (by rw[h.sp.c hl];omega)) (fun q hq hl=>far (pb q) (h.rw.pl q hq hl).2.1.1 (by rw[h.sp.p q hq hl];omega));refine⟨by rw[hr,hc];exact bx,nf,h.lo,by rw[hr];exact h.ha,by rw[hc];exact h.hc,?_,by rw[hg];exact h.gr.block (fun q hq=>far q (h.gr.lt q hq).2 (by rw[h.sp.y q hq];omega)),?_,by rw[hc];exact h.kl,h.pr.of (fun q hq h1=>far q hq (by rw[h1];omega)) (fun _ _ h=>h),fun hk=>(h.cc hk).block rfl (far bc (h.cc hk).nf.1 (by rw[(h.cc hk).ro];omega)) o.size⟩
 ·refine⟨fun i hi=>?_,fun q hq=>?_,fun q hq=>?_,fun q hq k hk=>?_,fun q hq hl=>?_,?_,?_,?_,fun q q' hq hq' hne h1 h2=>?_,fun q hq=>?_⟩
  ·have hi2:i<x.regs.length:=by rw[←hr];exact hi
   have e2:x'.regs[i]=x.regs[i]:=by simp [hr]
   rw[e2];exact rw2.r i hi2
  ·rw[hc] at hq;rw[cc];exact rw2.s q hq
  ·rw[hc] at hq;rw[cc];exact rw2.p7 q hq
  ·rw[hc] at hq;rw[cc] at hk ⊢;exact rw2.p q hq k hk
  ·rw[hc] at hq;exact rw2.pl q hq hl
  ·rw[hr];exact rw2.nr
  ·rw[hc];exact rw2.nc
  ·rw[hc];exact rw2.d
  ·rw[hc] at hq hq';exact rw2.dp q q' hq hq' hne h1 h2
  ·rw[hc] at hq;rw[cc];exact rw2.kp q hq
 ·refine⟨h.sp.g,by rw[hr];exact h.sp.r,by rw[hc];exact h.sp.c,h.sp.y,fun q hq hl=>?_⟩;rw[hc] at hq;exact h.sp.p q hq hl
theorem GOk.box[Inhabited ProtD]{B:Nat}{w:World}{g:Nat}{x:Hp}(h:GOk B w g x):w.cell? ⟨g,6,none⟩=some (iv x.hand)∧w.cell? ⟨g,7,none⟩=some (iv x.sub)∧w.cell? ⟨g,5,none⟩=some (iv x.phase)∧(∀o,w.frozen? ⟨g,o,none⟩=false)∧B≤g∧g<w.heap.size:=by
 obtain⟨ar,kr,ac,kc,vg,br,bc,pb,pa,pk,role,h⟩:=h;exact⟨h.bx.2.2.2.2.2.2.1,h.bx.2.2.2.2.2.2.2.1,h.bx.2.2.2.2.2.1,h.nf.2,h.lo,h.nf.1⟩
theorem GAt.turn[Inhabited ProtD]{B:Nat}{w w':World}{g:Nat}{x:Hp}{ar:Option Addr}{kr:Nat}{ac:Option Addr}{kc:Nat}{vg:Value}{br bc:Nat}{pb:Nat→Nat}{pa:Nat→Option Addr}{pk:Nat→Nat}{role:Nat→Nat}(h:GAt B w g x ar kr ac kc vg br bc pb pa pk role)(cs:List Cl)(hl:cs.length=x.cells.length)(so:Nat→Nat)(pa':Nat→Option Addr)(pk':Nat→Nat)(role':Nat→Nat)(hn:0<x.cells.length)
  (o:Only (fun q=>q=bc) w w') (nf:Nf1 bc w')
  (hs:∀q,q<x.cells.length→S7 w' bc (q*8) (({ x with cells:=cs }:Hp).c q))
  (h7:∀q,q<x.cells.length→w'.cell? ⟨bc,q*8+7,none⟩=some (.slice (pa' q) (({ x with cells:=cs }:Hp).c q).prs.length (pk' q)))
  (hkp:∀q,q<x.cells.length→(({ x with cells:=cs }:Hp).c q).prs.length≤pk' q)
  (hso:∀q,q<x.cells.length→0<pk' q→(so q<x.cells.length∧pk' q=pk (so q))∧(x.c (so q)).prs=(({ x with cells:=cs }:Hp).c q).prs∧pa' q=pa (so q)∧role' (pb (so q))=6+q)
  (hro:∀q,role q<6→role' q=role q) (hcc:∀j,x.cells.length*8≤j→w'.cell? ⟨bc,j,none⟩=w.cell? ⟨bc,j,none⟩) :
  GAt B w' g { x with cells:=cs } ar kr ac kc vg br bc (fun q=>pb (so q)) pa' pk' role':=by
 have far:∀q,q<w.heap.size→role q≠3→w'.heap[q]?=w.heap[q]?:=fun q hq hr=>o.block q hq (fun e=>hr (by rw[e];exact h.sp.c hn))
 have hl':({ x with cells:=cs }:Hp).cells.length=x.cells.length:=hl;have fg:=far g h.nf.1 (by rw[h.sp.g];omega);have pf:∀q,q<x.cells.length→0<pk q→w'.heap[pb q]?=w.heap[pb q]?:=fun q hq hl=>far (pb q) (h.rw.pl q hq hl).2.1.1 (by rw[h.sp.p q hq hl];omega)
 refine⟨?_,nf1_block h.nf fg o.size,h.lo,h.ha,fun _=>h.hc hn,⟨fun k hk=>?_,fun q hq=>?_,fun q hq=>?_,fun q hq k hk=>?_,fun q hq hlq=>?_,fun hr=>⟨nf1_block (h.rw.nr hr).1 (far br (h.rw.nr hr).1.1 (by rw[h.sp.r hr];omega)) o.size,(h.rw.nr hr).2⟩,fun _=>⟨nf,(h.rw.nc hn).2⟩,fun _=>h.rw.d hn,fun q q' hq hq' hne h1 h2=>?_,fun q hq=>?_⟩,h.gr.block (fun q hq=>far q (h.gr.lt q hq).2 (by rw[h.sp.y q hq];omega)),⟨?_,fun hr=>?_,fun _=>?_,fun q hq=>?_,fun q hq hlq=>?_⟩,by rw[hl'];exact h.kl,h.pr.of (fun q hq h1=>far q hq (by rw[h1];omega)) (fun q _ h1=>by rw[hro q (by rw[h1];omega)];exact h1),fun hk=>(h.cc hk).cells (hro bc (by rw[(h.cc hk).ro];omega)) nf (fun j v _ hv=>?_)⟩
 ·rw[hl'];exact(h.bx.block fg)
 ·exact(h.rw.r k hk).of fun j _=>World.cell?_of_block (a:=⟨br,_,none⟩) (far br (h.rw.nr (by have:k<x.regs.length:=hk;omega)).1.1 (by rw[h.sp.r (by have:k<x.regs.length:=hk;omega)];omega))
 ·rw[hl'] at hq;exact hs q hq
 ·rw[hl'] at hq;exact h7 q hq
 ·rw[hl'] at hq;obtain⟨⟨a1,_⟩,a2,_⟩:=hso q hq (by have:=hkp q hq;omega);have e2:(({ x with cells:=cs }:Hp).c q).p k=(x.c (so q)).p k:=by simp only [Cl.p,a2]
  rw[←a2] at hk;rw[e2];exact(h.rw.p (so q) a1 k hk).of fun j _=>World.cell?_of_block (a:=⟨pb (so q),_,none⟩) (pf (so q) a1 (h.rw.pw a1 (by omega)))
 ·rw[hl'] at hq;obtain⟨⟨a1,a0⟩,a2,a3,_⟩:=hso q hq hlq;rw[a0] at hlq;obtain⟨b1,b2,b3⟩:=h.rw.pl (so q) a1 hlq;exact⟨a3.trans b1,by rw[a0];exact nfp_block b2 (pf (so q) a1 hlq) o.size,b3⟩
 ·rw[hl'] at hq hq';intro e;have r1:=(hso q hq h1).2.2.2;have r2:=(hso q' hq' h2).2.2.2;have e':pb (so q)=pb (so q'):=e;rw[e',r2] at r1;omega
 ·rw[hl'] at hq;exact hkp q hq
 ·rw[hro g (by rw[h.sp.g];omega)];exact h.sp.g
 ·have:=h.sp.r hr;rw[hro br (by omega)];exact this
 ·have:=h.sp.c hn;rw[hro bc (by omega)];exact this
 ·have:=h.sp.y q hq;rw[hro q (by omega)];exact this
 ·rw[hl'] at hq;exact(hso q hq hlq).2.2.2
 ·by_cases e:x.cells.length*8≤j
  ·exact⟨v,(hcc j e).trans hv⟩
  ·by_cases e7:j % 8=7
   ·have:=h7 (j / 8) (by omega);rw[show j / 8*8+7=j by omega] at this;exact⟨_,this⟩
   ·have:=(hs (j / 8) (by omega)).some (j % 8) (by omega);rw[show j / 8*8+j % 8=j by omega] at this;exact this
theorem GAt.clear[Inhabited ProtD]{B:Nat}{w w':World}{g:Nat}{x:Hp}{ar:Option Addr}{kr:Nat}{ac:Option Addr}{kc:Nat}{vg:Value}{br bc:Nat}{pb:Nat→Nat}{pa:Nat→Option Addr}{pk:Nat→Nat}{role:Nat→Nat}(h:GAt B w g x ar kr ac kc vg br bc pb pa pk role)(i:Nat)(hi:i<x.cells.length)(c':Cl)(hp:c'.prs=[])(o:Only (fun q=>q=bc) w w')(nf:Nf1 bc w')(hs:S7 w' bc (i*8) c')(h7:w'.cell? ⟨bc,i*8+7,none⟩=some (.slice none 0 0))(ho:∀k,(k<i*8∨i*8+8≤k)→w'.cell? ⟨bc,k,none⟩=w.cell? ⟨bc,k,none⟩):
  GAt B w' g { x with cells:=x.cells.set i c' } ar kr ac kc vg br bc pb (fun q=>if q=i then none else pa q) (fun q=>if q=i then 0 else pk q) role:=by
 have hc:=Hp.c_set x i c' hi;refine h.turn (x.cells.set i c') (by simp) (fun q=>q) _ _ role (by omega) o nf (fun q hq=>?_) (fun q hq=>?_) (fun q hq=>?_) (fun q hq hl=>?_) (fun _ _=>rfl) (fun j hj=>ho j (by omega))
 ·rw[hc q];by_cases e:q=i
  ·subst e;rw[if_pos rfl];exact hs
  ·rw[if_neg e];exact(h.rw.s q hq).of fun j hj=>ho _ (by omega)
 ·rw[hc q];by_cases e:q=i
  ·subst e;simp only [if_true,hp];exact h7
  ·simp only [if_neg e];rw[ho _ (by omega)];exact h.rw.p7 q hq
 ·rw[hc q];by_cases e:q=i
  ·rw[if_pos e,hp];simp
  ·rw[if_neg e,if_neg e];exact h.rw.kp q hq
 ·rw[hc q];by_cases e:q=i
  ·rw[if_pos e] at hl;omega
  ·rw[if_neg e] at hl;exact⟨⟨hq,if_neg e⟩,by rw[if_neg e],if_neg e,h.sp.p q hq hl⟩
theorem GOk.set1[Inhabited ProtD]{B:Nat}{w:World}{g:Nat}{x:Hp}(h:GOk B w g x)(v:Int):GOk B (w.setCell ⟨g,1,none⟩ (iv v)) g { x with used:=v }:=by
 obtain⟨ar,kr,ac,kc,vg,br,bc,pb,pa,pk,role,h⟩:=h;exact⟨_,_,_,_,_,_,_,_,_,_,_,h.boxed (x':={ x with used:=v }) (Only.setCell (S:=fun q=>q=g) (Only.refl _ w) (p:=⟨g,1,none⟩) rfl _) (h.nf.set _ _) rfl rfl rfl (h.bx.set1 v)⟩
theorem wrap_fit(n:Int)(h0:-1000000≤n)(h1:n≤1000000):wrap64 n=n:=by unfold wrap64;omega
theorem cs_same{w:World}{p:Addr}{v u:Value}(h:w.cell? p=some u):(w.setCell p v).cell? p=some v:=World.cell?_setCell_same _ _ _ h
def wipeW(w:World)(b o:Nat)(st tv:Int):World:=(((((((w.setCell ⟨b,o,none⟩ (iv st)).setCell ⟨b,o+1,none⟩ (iv 0)).setCell ⟨b,o+2,none⟩ (iv 0)).setCell ⟨b,o+3,none⟩ (iv 0)).setCell ⟨b,o+4,none⟩ (iv 0)).setCell ⟨b,o+5,none⟩ (iv 0)).setCell ⟨b,o+6,none⟩ (iv tv)).setCell ⟨b,o+7,none⟩ (.slice none 0 0)
theorem wipe_only(w:World)(b o:Nat)(st tv:Int):Only (fun q=>q=b) w (wipeW w b o st tv):=
 Only.setCell (S:=fun q=>q=b) (Only.setCell (S:=fun q=>q=b) (Only.setCell (S:=fun q=>q=b) (Only.setCell (S:=fun q=>q=b) (Only.setCell (S:=fun q=>q=b) (Only.setCell (S:=fun q=>q=b) (Only.setCell (S:=fun q=>q=b) (Only.setCell (S:=fun q=>q=b) (Only.refl _ w) (p:=⟨b,o,none⟩) rfl _) (p:=⟨b,o+1,none⟩) rfl _) (p:=⟨b,o+2,none⟩) rfl _) (p:=⟨b,o+3,none⟩) rfl _) (p:=⟨b,o+4,none⟩) rfl _) (p:=⟨b,o+5,none⟩) rfl _) (p:=⟨b,o+6,none⟩) rfl _) (p:=⟨b,o+7,none⟩) rfl _
theorem wipe_nf{w:World}{b:Nat}(h:Nf1 b w)(o:Nat)(st tv:Int):Nf1 b (wipeW w b o st tv):=(((((((h.set _ _).set _ _).set _ _).set _ _).set _ _).set _ _).set _ _).set _ _
theorem wipe_other(w:World)(b o:Nat)(st tv:Int)(k:Nat)(hk:k<o∨o+8≤k):(wipeW w b o st tv).cell? ⟨b,k,none⟩=w.cell? ⟨b,k,none⟩:=by
 unfold wipeW;rw[cell_other _ (.inr (by omega)),cell_other _ (.inr (by omega)),cell_other _ (.inr (by omega)),cell_other _ (.inr (by omega)),cell_other _ (.inr (by omega)),cell_other _ (.inr (by omega)),cell_other _ (.inr (by omega)),cell_other _ (.inr (by omega))]
theorem wipe_same(w:World)(b o:Nat)(st tv:Int)(c:Cl)(v:Value)(h:S7 w b o c)(h7:w.cell? ⟨b,o+7,none⟩=some v):S7 (wipeW w b o st tv) b o ⟨st,0,0,0,0,0,tv,[]⟩∧(wipeW w b o st tv).cell? ⟨b,o+7,none⟩=some (.slice none 0 0):=by
 obtain⟨a0,a1,a2,a3,a4,a5,a6⟩:=h;unfold wipeW;refine⟨⟨?_,?_,?_,?_,?_,?_,?_⟩,?_⟩
 ·iterate 7 rw[cell_other _ (.inr (by omega))]
  exact World.cell?_setCell_same _ _ _ a0
 ·iterate 6 rw[cell_other _ (.inr (by omega))]
  exact World.cell?_setCell_same _ _ _ ((cell_other _ (.inr (by omega))).trans a1)
 ·iterate 5 rw[cell_other _ (.inr (by omega))]
  refine cs_same (u:=iv c.weak) ?_
  iterate 2 rw[cell_other _ (.inr (by omega))]
  exact a2
 ·iterate 4 rw[cell_other _ (.inr (by omega))]
  refine cs_same (u:=iv c.last) ?_
  iterate 3 rw[cell_other _ (.inr (by omega))]
  exact a3
 ·iterate 3 rw[cell_other _ (.inr (by omega))]
  refine cs_same (u:=iv c.born) ?_
  iterate 4 rw[cell_other _ (.inr (by omega))]
  exact a4
 ·iterate 2 rw[cell_other _ (.inr (by omega))]
  refine cs_same (u:=iv c.color) ?_
  iterate 5 rw[cell_other _ (.inr (by omega))]
  exact a5
 ·rw[cell_other _ (.inr (by omega))];refine cs_same (u:=iv c.to) ?_
  iterate 6 rw[cell_other _ (.inr (by omega))]
  exact a6
 ·refine cs_same (u:=v) ?_
  iterate 7 rw[cell_other _ (.inr (by omega))]
  exact h7
structure Rwn(B:Nat)(w:World)(x:Hp)(br:Nat)(cB cO:Nat→Nat)(pb:Nat→Nat)(pa:Nat→Option Addr)(pk:Nat→Nat):Prop where
 r:∀i (hi:i<x.regs.length),WdAt w br (i*3) x.regs[i]
 s:∀q,q<x.cells.length→S7 w (cB q) (cO q) (x.c q)
 p7:∀q,q<x.cells.length→w.cell? ⟨cB q,cO q+7,none⟩=some (.slice (pa q) (x.c q).prs.length (pk q))
 p:∀q,q<x.cells.length→∀k,k<(x.c q).prs.length→PrAt w (pb q) (k*6) ((x.c q).p k)
 pl:∀q,q<x.cells.length→0<pk q→pa q=some ⟨pb q,0,none⟩∧Nfp (pb q) (pk q) w∧(pb q≠br∧∀j,j<x.cells.length→pb q≠cB j)∧B≤pb q
 nr:0<x.regs.length→Nf1 br w∧B≤br
 nc:∀q,q<x.cells.length→Nf1 (cB q) w∧B≤cB q
 d:∀q,q<x.cells.length→br≠cB q
 dp:∀q q',q<x.cells.length→q'<x.cells.length→q≠q'→0<pk q→0<pk q'→pb q≠pb q'
 dc:∀q q',q<x.cells.length→q'<x.cells.length→q≠q'→cB q≠cB q'∨cO q+8≤cO q'∨cO q'+8≤cO q
 kp:CapP x pk
theorem Rwn.pw{B:Nat}{w:World}{x:Hp}{br:Nat}{cB cO:Nat→Nat}{pb:Nat→Nat}{pa:Nat→Option Addr}{pk:Nat→Nat}(h:Rwn B w x br cB cO pb pa pk){q:Nat}(hq:q<x.cells.length)(hl:0<(x.c q).prs.length):0<pk q:=Nat.lt_of_lt_of_le hl (h.kp q hq)
theorem Rwn.same{B:Nat}{w w':World}{x:Hp}{br:Nat}{cB cO pb:Nat→Nat}{pa:Nat→Option Addr}{pk:Nat→Nat}(h:Rwn B w x br cB cO pb pa pk)(hs:w.heap.size≤w'.heap.size)
  (hr:0<x.regs.length→w'.heap[br]?=w.heap[br]?) (hc:∀q,q<x.cells.length→w'.heap[cB q]?=w.heap[cB q]?) (hp:∀q,q<x.cells.length→0<pk q→w'.heap[pb q]?=w.heap[pb q]?):Rwn B w' x br cB cO pb pa pk where
 r:=fun i hi=>(h.r i hi).of fun j _=>World.cell?_of_block (a:=⟨br,_,none⟩) (hr (by omega))
 s:=fun q hq=>(h.s q hq).of fun j _=>World.cell?_of_block (a:=⟨cB q,_,none⟩) (hc q hq)
 p7:=fun q hq=>(World.cell?_of_block (a:=⟨cB q,_,none⟩) (hc q hq)).trans (h.p7 q hq)
 p:=fun q hq k hk=>(h.p q hq k hk).of fun j _=>World.cell?_of_block (a:=⟨pb q,_,none⟩) (hp q hq (h.pw hq (by omega)))
 pl:=fun q hq hl=>let ⟨a,b,c⟩:=h.pl q hq hl;⟨a,nfp_block b (hp q hq hl) hs,c⟩
 nr:=fun hl=>⟨nf1_block (h.nr hl).1 (hr hl) hs,(h.nr hl).2⟩
 nc:=fun q hq=>⟨nf1_block (h.nc q hq).1 (hc q hq) hs,(h.nc q hq).2⟩
 d:=h.d
 dp:=h.dp
 dc:=h.dc
 kp:=h.kp
theorem Rwn.ext{B:Nat}{w w':World}{x:Hp}{br:Nat}{cB cO pb:Nat→Nat}{pa:Nat→Option Addr}{pk:Nat→Nat}(h:Rwn B w x br cB cO pb pa pk)(e:Ext w w'):Rwn B w' x br cB cO pb pa pk:=
 h.same e.size (fun hl=>e.block _ (h.nr hl).1.1) (fun q hq=>e.block _ (h.nc q hq).1.1) (fun q hq hl=>e.block _ (h.pl q hq hl).2.1.1)
theorem Rwn.only{S:Nat→Prop}{B:Nat}{w w':World}{x:Hp}{br:Nat}{cB cO pb:Nat→Nat}{pa:Nat→Option Addr}{pk:Nat→Nat}(h:Rwn B w x br cB cO pb pa pk)(e:Only S w w')(hr:0<x.regs.length→¬S br)(hc:∀q,q<x.cells.length→¬S (cB q))(hp:∀q,q<x.cells.length→0<pk q→¬S (pb q)):Rwn B w' x br cB cO pb pa pk:=
 h.same e.size (fun hl=>e.block _ (h.nr hl).1.1 (hr hl)) (fun q hq=>e.block _ (h.nc q hq).1.1 (hc q hq)) (fun q hq hl=>e.block _ (h.pl q hq hl).2.1.1 (hp q hq hl))
theorem Rwn.slW{B:Nat}{w:World}{x:Hp}{br:Nat}{cB cO pb:Nat→Nat}{pa:Nat→Option Addr}{pk:Nat→Nat}(h:Rwn B w x br cB cO pb pa pk){ad:Option Addr}(kr:Nat)(ha:0<x.regs.length→ad=some ⟨br,0,none⟩)(hl:x.regs.length≤1048576):SlW w (.slice ad x.regs.length kr) x.regs:=
 ⟨_,_,rfl,by omega,fun i hi=>⟨br,0,ha (by omega),by rw[Nat.zero_add];exact h.r i hi⟩⟩
theorem Rwn.far8{B:Nat}{w:World}{x:Hp}{br:Nat}{cB cO pb:Nat→Nat}{pa:Nat→Option Addr}{pk:Nat→Nat}(h:Rwn B w x br cB cO pb pa pk){i q:Nat}(hi:i<x.cells.length)(hq:q<x.cells.length)(e:q≠i){w1 w2:World}(hs:w.heap.size≤w1.heap.size)(o:Only (fun d=>d=cB i) w1 w2)(ho:∀k,(k<cO i∨cO i+8≤k)→w2.cell? ⟨cB i,k,none⟩=w1.cell? ⟨cB i,k,none⟩)(k:Nat)(hk:k<8):w2.cell? ⟨cB q,cO q+k,none⟩=w1.cell? ⟨cB q,cO q+k,none⟩:=by
 by_cases e2:cB q=cB i
 ·rw[e2];rcases h.dc q i hq hi e with d | d | d
  ·exact(d e2).elim
  ·exact ho _ (by omega)
  ·exact ho _ (by omega)
 ·exact World.cell?_of_block (a:=⟨cB q,_,none⟩) (o.block (cB q) (Nat.lt_of_lt_of_le (h.nc q hq).1.1 hs) e2)
theorem nf1_cell{i q:Nat}{cB:Nat→Nat}{w1 w2:World}(h:Nf1 (cB q) w1)(n:Nf1 (cB i) w2)(o:Only (fun d=>d=cB i) w1 w2):Nf1 (cB q) w2:=by
 by_cases e2:cB q=cB i
 ·rw[e2];exact n
 ·exact nf1_block h (o.block (cB q) h.1 e2) o.size
theorem Rws.rwn{B:Nat}{w:World}{x:Hp}{br bc:Nat}{pb:Nat→Nat}{pa:Nat→Option Addr}{pk:Nat→Nat}(h:Rws B w x br bc pb pa pk):Rwn B w x br (fun _=>bc) (fun q=>q*8) pb pa pk where
 r:=h.r
 s:=h.s
 p7:=h.p7
 p:=h.p
 pl:=fun q hq hl=>let ⟨a,b,c,d⟩:=h.pl q hq hl;⟨a,b,⟨c.1,fun _ _=>c.2⟩,d⟩
 nr:=h.nr
 nc:=fun q hq=>h.nc (by omega)
 d:=fun q hq=>h.d (by omega)
 dp:=h.dp
 dc:=fun q q' _ _ e=>.inr (by omega)
 kp:=h.kp
abbrev ndp(bn i:Nat):Value:=.pointer (some ⟨bn,i*2,none⟩)
structure SSep(x:Hp)(role:Nat→Nat)(b br:Nat)(cB:Nat→Nat)(bn:Nat)(pb pk:Nat→Nat)(vf vk:Value):Prop where
 b:role b=0
 n:role bn=1
 r:0<x.regs.length→role br=2
 c:∀q,q<x.cells.length→role (cB q)=3
 f:∀q,vf.ownBlock=some q→role q=4
 k:∀q,vk.ownBlock=some q→role q=5
 p:∀q,q<x.cells.length→0<pk q→role (pb q)=6+q
structure RAt(w:World)(b bn hd:Nat)(G:List Int):Prop where
 h0:hd<4000
 hl:G.length≤4000
 r0:w.cell? ⟨b,4015,none⟩=some (iv hd)
 r1:w.cell? ⟨b,4016,none⟩=some (iv G.length)
 rg:∀i (hi:i<G.length),w.cell? ⟨b,15+(hd+i) % 4000,none⟩=some (ndp bn G[i].toNat)
 ro:∀j,j<4000→∃v,w.cell? ⟨b,15+j,none⟩=some v
def NdB(w:World)(bn kn:Nat):Prop:=bn<w.heap.size∧∀j,j<kn*2→Open w bn j
theorem NdB.of{w w':World}{bn kn:Nat}(h:NdB w bn kn)(e:w'.heap[bn]?=w.heap[bn]?)(hs:w.heap.size≤w'.heap.size):NdB w' bn kn:=
 ⟨Nat.lt_of_lt_of_le h.1 hs,fun j hj=>by
  obtain⟨⟨v,hv⟩,hf⟩:=h.2 j hj;exact⟨⟨v,(World.cell?_of_block (a:=⟨bn,j,none⟩) e).trans hv⟩,(World.frozen?_of_block (a:=⟨bn,j,none⟩) e).trans hf⟩⟩
structure SB(B:Nat)(w:World)(b:Nat)(x:Hp)(ar:Option Addr)(kr:Nat)(v4 v8:Value)(br:Nat)(cB cO:Nat→Nat)(bn:Nat)(kn hd:Nat)(vf:Value)(F:List Int)(vk:Value)(K:List Nat):Prop where
 bx:HBox w b x (.slice ar x.regs.length kr) v4 v8
 ha:0<x.regs.length→ar=some ⟨br,0,none⟩
 n13:w.cell? ⟨b,13,none⟩=some (.slice (some ⟨bn,0,none⟩) x.cells.length kn)
 nd:∀i,i<x.cells.length→w.cell? ⟨bn,i*2,none⟩=some (iv i)∧w.cell? ⟨bn,i*2+1,none⟩=some (.pointer (some ⟨cB i,cO i,none⟩))
 fr:LsAt w B b 14 vf F
 rg:RAt w b bn hd x.gray
 k0:w.cell? ⟨b,4017,none⟩=some vk
 kp:w.ownsRow B 126 1 vk K.length (K.map (ndp bn))
 nb:Nf1 b w
 lo:B≤b∧B≤bn∧NdB w bn kn
structure SAt[Inhabited ProtD](B:Nat)(w:World)(b:Nat)(x:Hp)(ar:Option Addr)(kr:Nat)(v4 v8:Value)(br:Nat)(cB cO:Nat→Nat)(bn:Nat)(pb:Nat→Nat)(pa:Nat→Option Addr)(pk:Nat→Nat)(kn hd:Nat)(vf:Value)(F:List Int)(vk:Value)(K:List Nat)(role:Nat→Nat):Prop where
 sb:SB B w b x ar kr v4 v8 br cB cO bn kn hd vf F vk K
 rw:Rwn B w x br cB cO pb pa pk
 sp:SSep x role b br cB bn pb pk vf vk
 pr:Prt w role
theorem ring_idx(a:Nat):((a:Int).tmod 4000)=((a % 4000:Nat):Int):=by
 rw[Int.tmod_eq_emod_of_nonneg (by omega)];omega
theorem RAt.of{w w':World}{b bn hd:Nat}{G:List Int}(h:RAt w b bn hd G)(e:∀o,15≤o→o<4017→w'.cell? ⟨b,o,none⟩=w.cell? ⟨b,o,none⟩):RAt w' b bn hd G:=
 ⟨h.h0,h.hl,(e 4015 (by omega) (by omega)).trans h.r0,(e 4016 (by omega) (by omega)).trans h.r1,fun i hi=>(e _ (by omega) (by have:(hd+i) % 4000<4000:=Nat.mod_lt _ (by omega);omega)).trans (h.rg i hi),fun j hj=>let ⟨v,q⟩:=h.ro j hj;⟨v,(e _ (by omega) (by omega)).trans q⟩⟩
theorem RAt.block{w w':World}{b bn hd:Nat}{G:List Int}(h:RAt w b bn hd G)(e:w'.heap[b]?=w.heap[b]?):RAt w' b bn hd G:=h.of fun o _ _=>World.cell?_of_block (a:=⟨b,o,none⟩) e
theorem RAt.put{w:World}{b bn hd i m:Nat}{G:List Int}(h:RAt w b bn hd G)(hl:G.length<4000)(hm:m=(hd+G.length) % 4000):
  RAt ((w.setCell ⟨b,15+m,none⟩ (ndp bn i)).setCell ⟨b,4016,none⟩ (iv (G.length+1))) b bn hd (G++[(i:Int)]):=by
 have hm4:m<4000:=by rw[hm];exact Nat.mod_lt _ (by omega)
 refine⟨h.h0,by simp;omega,?_,?_,fun k hk=>?_,fun j hj=>?_⟩
 ·rw[cell_other _ (.inr (by omega)),cell_other _ (.inr (by omega))];exact h.r0
 ·have:(w.setCell ⟨b,15+m,none⟩ (ndp bn i)).cell? ⟨b,4016,none⟩=some (iv G.length):=by rw[cell_other _ (.inr (by omega))];exact h.r1
  rw[World.cell?_setCell_same _ _ _ this];simp
 ·have hk2:(hd+k) % 4000<4000:=Nat.mod_lt _ (by omega);rw[cell_other _ (.inr (by omega))];by_cases e:k=G.length
  ·subst e;obtain⟨v,hv⟩:=h.ro m hm4;rw[←hm,World.cell?_setCell_same _ _ _ hv];simp
  ·have hk3:k<G.length:=by simp at hk;omega
   rw[cell_other _ (.inr (by have:=h.h0;omega)),h.rg k hk3];simp [hk3]
 ·rw[cell_other _ (.inr (by omega))];obtain⟨v,hv⟩:=h.ro j hj;exact cell?_setCell_some hv
theorem drew_cell(w:World)(p:Addr):w.drew.cell? p=w.cell? p:=World.cell?_of_block (a:=p) rfl
theorem SB.same{B:Nat}{w:World}{b:Nat}{x:Hp}{ar:Option Addr}{kr:Nat}{v4 v8:Value}{br bn:Nat}{cB cO:Nat→Nat}{kn hd:Nat}{vf:Value}{F:List Int}{vk:Value}{K:List Nat}{w':World}(h:SB B w b x ar kr v4 v8 br cB cO bn kn hd vf F vk K)(hs:w.heap.size≤w'.heap.size)(hb:w'.heap[b]?=w.heap[b]?)(hn:w'.heap[bn]?=w.heap[bn]?)(hf:∀q,vf.ownBlock=some q→w'.heap[q]?=w.heap[q]?)(hk:∀q,vk.ownBlock=some q→w'.heap[q]?=w.heap[q]?):SB B w' b x ar kr v4 v8 br cB cO bn kn hd vf F vk K where
 bx:=h.bx.block hb
 ha:=h.ha
 n13:=(World.cell?_of_block (a:=⟨b,13,none⟩) hb).trans h.n13
 nd:=fun i hi=>⟨(World.cell?_of_block (a:=⟨bn,_,none⟩) hn).trans (h.nd i hi).1,(World.cell?_of_block (a:=⟨bn,_,none⟩) hn).trans (h.nd i hi).2⟩
 fr:=⟨(World.cell?_of_block (a:=⟨b,14,none⟩) hb).trans h.fr.hd,(World.frozen?_of_block (a:=⟨b,14,none⟩) hb).trans h.fr.hf,ownsRow_of_block h.fr.own hf,h.fr.apart⟩
 rg:=h.rg.block hb
 k0:=(World.cell?_of_block (a:=⟨b,4017,none⟩) hb).trans h.k0
 kp:=ownsRow_of_block h.kp hk
 nb:=nf1_block h.nb hb hs
 lo:=⟨h.lo.1,h.lo.2.1,h.lo.2.2.of hn hs⟩
theorem SAt.ext[Inhabited ProtD]{B:Nat}{w:World}{b:Nat}{x:Hp}{ar:Option Addr}{kr:Nat}{v4 v8:Value}{br bn:Nat}{cB cO:Nat→Nat}{pb:Nat→Nat}{pa:Nat→Option Addr}{pk:Nat→Nat}{kn hd:Nat}{vf:Value}{F:List Int}{vk:Value}{K:List Nat}{role:Nat→Nat}{w':World}(h:SAt B w b x ar kr v4 v8 br cB cO bn pb pa pk kn hd vf F vk K role)(e:Ext w w'):SAt B w' b x ar kr v4 v8 br cB cO bn pb pa pk kn hd vf F vk K role:=
 ⟨h.sb.same e.size (e.block b h.sb.nb.1) (e.block bn h.sb.lo.2.2.1) (fun q hq=>e.block q (h.sb.fr.own.lt q hq).2) (fun q hq=>e.block q (h.sb.kp.lt q hq).2),h.rw.ext e,h.sp,h.pr.of (fun q hq _=>e.block q hq) (fun _ _ h=>h)⟩
theorem SAt.push[Inhabited ProtD]{B:Nat}{b:Nat}{x:Hp}{ar:Option Addr}{kr:Nat}{v4 v8:Value}{br bn:Nat}{cB cO:Nat→Nat}{pb:Nat→Nat}{pa:Nat→Option Addr}{pk:Nat→Nat}{kn hd:Nat}{vf:Value}{F:List Int}{vk:Value}{K:List Nat}{role:Nat→Nat}{W w5:World}{i g cap:Nat}(h:SAt B W b x ar kr v4 v8 br cB cO bn pb pa pk kn hd vf F vk K role)(hg:W.grownBy w5 vk.ownBlock)(h5:w5.ownsRow B 126 1 (.slice (some ⟨g,0,none⟩) (K.length+1) cap) (K.length+1) (K.map (ndp bn)++[ndp bn i]))(hat:vk.ownBlock=some g∨g=W.heap.size):
  SAt B (w5.setCell ⟨b,4017,none⟩ (.slice (some ⟨g,0,none⟩) (K.length+1) cap)) b x ar kr v4 v8 br cB cO bn pb pa pk kn hd vf F (.slice (some ⟨g,0,none⟩) (K.length+1) cap) (K++[i]) (fun q=>if q=g then 5 else role q):=by
 have hgb:∀q,q<W.heap.size→role q≠5→q≠g:=fun q hq hr e=>by
  rcases hat with a | a
  ·exact hr (by rw[e];exact h.sp.k g a)
  ·omega
 have far:∀q,q<W.heap.size→role q≠5→w5.heap[q]?=W.heap[q]?:=fun q hq hr=>hg.block q hq (fun e=>hr (h.sp.k q e.symm))
 have hb:=h.sb.nb.1;have rb:role b≠5:=by rw[h.sp.b];omega
 have fb:=far b hb rb;have nbg:=hgb b hb rb;have far2:∀q,q<W.heap.size→role q≠5→q≠b→(w5.setCell ⟨b,4017,none⟩ (.slice (some ⟨g,0,none⟩) (K.length+1) cap)).heap[q]?=W.heap[q]?:=fun q hq hr hne=>(Below.heap_setCell _ _ _ _ hne).trans (far q hq hr)
 have cb:∀o,o≠4017→(w5.setCell ⟨b,4017,none⟩ (.slice (some ⟨g,0,none⟩) (K.length+1) cap)).cell? ⟨b,o,none⟩=W.cell? ⟨b,o,none⟩:=fun o ho=>(cell_other _ (.inr (fun e=>ho e.symm))).trans (World.cell?_of_block (a:=⟨b,o,none⟩) fb)
 have hsz:W.heap.size≤(w5.setCell ⟨b,4017,none⟩ (.slice (some ⟨g,0,none⟩) (K.length+1) cap)).heap.size:=by have:=hg.size;simpa [World.setCell] using this
 have rn:role bn≠5:=by rw[h.sp.n];omega
 have nnb:bn≠b:=fun e=>by have h1:=h.sp.n;have h2:=h.sp.b;rw[e] at h1;omega
 have fn:=far2 bn h.sb.lo.2.2.1 rn nnb;have ff:∀q,vf.ownBlock=some q→(w5.setCell ⟨b,4017,none⟩ (.slice (some ⟨g,0,none⟩) (K.length+1) cap)).heap[q]?=W.heap[q]?:=fun q hq=>far2 q (h.sb.fr.own.lt q hq).2 (by rw[h.sp.f q hq];omega) (fun e=>by have h1:=h.sp.f q hq;have h2:=h.sp.b;rw[e] at h1;omega)
 refine⟨⟨h.sb.bx.of fun o ho=>cb o (by omega),h.sb.ha,(cb 13 (by omega)).trans h.sb.n13,fun k hk=>⟨(World.cell?_of_block (a:=⟨bn,_,none⟩) fn).trans (h.sb.nd k hk).1,(World.cell?_of_block (a:=⟨bn,_,none⟩) fn).trans (h.sb.nd k hk).2⟩,⟨(cb 14 (by omega)).trans h.sb.fr.hd,?_,ownsRow_of_block h.sb.fr.own ff,h.sb.fr.apart⟩,h.sb.rg.of fun o _ h2=>cb o (by omega),?_,?_,?_,⟨h.sb.lo.1,h.sb.lo.2.1,h.sb.lo.2.2.of fn hsz⟩⟩,?_,?_,h.pr.of (fun q hq h1=>far2 q hq (by rw[h1];omega) (fun e=>by have h2:=h.sp.b;rw[e] at h1;omega)) (fun q hq h1=>by(try dsimp only);rw[if_neg (hgb q hq (by rw[h1];omega))];exact h1)⟩
 ·rw[World.frozen?_setCell];exact(World.frozen?_of_block (a:=⟨b,14,none⟩) fb).trans h.sb.fr.hf
 ·exact World.cell?_setCell_same _ _ _ ((World.cell?_of_block (a:=⟨b,4017,none⟩) fb).trans h.sb.k0)
 ·have:=ownsRow_of_block (w':=w5.setCell ⟨b,4017,none⟩ (.slice (some ⟨g,0,none⟩) (K.length+1) cap)) h5 (fun q hq=>Below.heap_setCell _ _ _ _ (fun e=>nbg (by simp [Value.ownBlock] at hq;rw[hq];exact e.symm)))
  simpa using this
 ·refine⟨Nat.lt_of_lt_of_le hb hsz,fun j=>?_⟩;rw[World.frozen?_setCell];exact(World.frozen?_of_block (a:=⟨b,j,none⟩) fb).trans (h.sb.nb.2 j)
 ·exact h.rw.same hsz (fun hl=>far2 br (h.rw.nr hl).1.1 (by rw[h.sp.r hl];omega) (fun e=>by have h1:=h.sp.r hl;have h2:=h.sp.b;rw[e] at h1;omega)) (fun q hq=>far2 (cB q) (h.rw.nc q hq).1.1 (by rw[h.sp.c q hq];omega) (fun e=>by have h1:=h.sp.c q hq;have h2:=h.sp.b;rw[e] at h1;omega)) (fun q hq hl=>far2 (pb q) (h.rw.pl q hq hl).2.1.1 (by rw[h.sp.p q hq hl];omega) (fun e=>by have h1:=h.sp.p q hq hl;have h2:=h.sp.b;rw[e] at h1;omega))
 ·refine⟨?_,?_,fun hl=>?_,fun q hq=>?_,fun q hq=>?_,fun q hq=>?_,fun q hq hl=>?_⟩
  ·rw[if_neg nbg];exact h.sp.b
  ·rw[if_neg (hgb bn h.sb.lo.2.2.1 rn)];exact h.sp.n
  ·rw[if_neg (hgb br (h.rw.nr hl).1.1 (by rw[h.sp.r hl];omega))];exact h.sp.r hl
  ·rw[if_neg (hgb (cB q) (h.rw.nc q hq).1.1 (by rw[h.sp.c q hq];omega))];exact h.sp.c q hq
  ·rw[if_neg (hgb q (h.sb.fr.own.lt q hq).2 (by rw[h.sp.f q hq];omega))];exact h.sp.f q hq
  ·simp [Value.ownBlock] at hq;rw[if_pos hq.symm]
  ·rw[if_neg (hgb (pb q) (h.rw.pl q hq hl).2.1.1 (by rw[h.sp.p q hq hl];omega))];exact h.sp.p q hq hl
def sweptB(x:Hp)(i:Nat):Bool:=x.phase == 4 || (x.phase == 3 && decide ((i:Int)<x.hand))
theorem swept_any(x:Hp)(b bn i:Nat)(w:World)(c5:w.cell? ⟨b,5,none⟩=some (iv x.phase))(c6:w.cell? ⟨b,6,none⟩=some (iv x.hand))(m0:w.cell? ⟨bn,i*2,none⟩=some (iv i)):
  Calls Tryz.prog 142 #[.pointer (some ⟨b,0,none⟩),ndp bn i] w fun e w'=>e=.returned (.bool (sweptB x i))∧Ext w w':=by
 cases q4:(x.phase == 4)
 ·cases q3:(x.phase == 3)
  ·have E:=hide (show sweptB x i=false by simp [sweptB,q4,q3]);go_enter Tryz.func142,Tryz.ntmps142;go_wp2_with fail;go_quiet (fail);go_wp2_with fail;go_ret;exact⟨by rw[unhide E];rfl,Ext.drewN (Ext.refl _) _⟩
  ·have E:=hide (show sweptB x i=decide ((i:Int)<x.hand) by simp [sweptB,q4,q3]);go_enter Tryz.func142,Tryz.ntmps142;go_wp2_with fail;go_quiet (fail);go_wp2_with fail;go_ret;exact⟨by rw[unhide E];rfl,Ext.drewN (Ext.refl _) _⟩
 ·have E:=hide (show sweptB x i=true by simp [sweptB,q4]);go_enter Tryz.func142,Tryz.ntmps142;go_wp2_with fail;go_quiet (fail);go_wp2_with fail;go_ret;exact⟨by rw[unhide E];rfl,Ext.drewN (Ext.refl _) _⟩
theorem rput_any(b bn hd i:Nat)(G:List Int)(w:World)(h:RAt w b bn hd G)(hn:Nf1 b w)(hl:G.length<4000):
  Calls Tryz.prog 141 #[.pointer (some ⟨b,15,none⟩),ndp bn i] w fun e w'=>e=.returned (.tuple #[])∧RAt w' b bn hd (G++[(i:Int)])∧Only (fun q=>q=b) w w'∧Nf1 b w'∧∀o,(o<15∨o=4015∨o=4017)→w'.cell? ⟨b,o,none⟩=w.cell? ⟨b,o,none⟩:=by
 have r0:=h.r0;have r1:=h.r1;have h0:=h.h0;obtain⟨u,ru⟩:=h.ro ((hd+G.length) % 4000) (Nat.mod_lt _ (by omega));have f0:=hn.2 (15+(hd+G.length) % 4000);have f1:=hn.2 4016;obtain⟨m,hm⟩:∃m,m=(hd+G.length) % 4000:=⟨_,rfl⟩;rw[←hm] at ru f0;have hm4:m<4000:=by rw[hm];exact Nat.mod_lt _ (by omega)
 have hr:((hd:Int)+(G.length:Int)).tmod 4000=(m:Int):=by have:=ring_idx (hd+G.length);rw[←hm] at this;simpa using this
 have m0:(0:Int)≤(m:Int):=by omega
 have m1:(m:Int)<4000:=by omega
 have HM:=hide hm;have H:=hide h;clear h hm;go_enter Tryz.func141,Tryz.ntmps141;go_wp2_with fail
 go_region
 all_goals
  go_wp2_with fail
  go_end0
  refine⟨rfl,((unhide H).put hl (unhide HM)).block rfl,(Only.setCell (S:=fun q=>q=b) (Only.setCell (S:=fun q=>q=b) (Only.refl _ w) (p:=⟨b,15+m,none⟩) rfl _) (p:=⟨b,4016,none⟩) rfl _).drew,⟨by have:=hn.1;simpa [World.setCell] using this,fun j=>by rw[show ∀(W:World) (p:Addr),W.drew.frozen? p=W.frozen? p from fun W p=>World.frozen?_of_block (a:=p) rfl,World.frozen?_setCell,World.frozen?_setCell];exact hn.2 j⟩,fun o ho=>?_⟩;rw[drew_cell,cell_other _ (.inr (by omega)),cell_other _ (.inr (by omega))]
def nowV(p:Int)(b:Nat):Value:=if p=1 then .iface 233 (.agg #[.pointer (some ⟨b,0,none⟩)]) else if p=2 then .iface 234 (.agg #[.pointer (some ⟨b,0,none⟩)]) else if p=3 then .iface 235 (.agg #[.pointer (some ⟨b,0,none⟩)]) else if p=4 then .iface 236 (.agg #[.pointer (some ⟨b,0,none⟩)]) else if p=5 then .iface 237 (.agg #[.pointer (some ⟨b,0,none⟩)]) else if p=6 then .iface 238 (.agg #[.pointer (some ⟨b,0,none⟩)]) else .nilIface
theorem now_any(p:Int)(b:Nat)(w:World)(c5:w.cell? ⟨b,5,none⟩=some (iv p))(hp:0≤p∧p≤6):
  Calls Tryz.prog 213 #[.pointer (some ⟨b,0,none⟩)] w fun e w'=>e=.returned (nowV p b)∧w'=w:=by
 have h:p=0∨p=1∨p=2∨p=3∨p=4∨p=5∨p=6:=by omega
 clear hp;rcases h with rfl | rfl | rfl | rfl | rfl | rfl | rfl
 all_goals
  go_enter Tryz.func213,Tryz.ntmps213;go_wp2_with fail;go_ret;exact⟨rfl,rfl⟩
theorem atHand_none(hd:Int)(b n kn:Nat)(an:Option Addr)(w:World)(c6:w.cell? ⟨b,6,none⟩=some (iv hd))(c13:w.cell? ⟨b,13,none⟩=some (.slice an n kn))(h:(hd == (n:Int))=true):
  Calls Tryz.prog 236 #[.pointer (some ⟨b,0,none⟩)] w fun e w'=>e=.returned (.pointer none)∧Ext w w':=by
 go_enter Tryz.func236,Tryz.ntmps236;go_wp2_with fail;go_quiet (fail);go_wp2_with fail;go_ret;exact⟨rfl,(Ext.refl _).drewN _⟩
theorem atHand_some(b n kn bn i:Nat)(w:World)(c6:w.cell? ⟨b,6,none⟩=some (iv i))(c13:w.cell? ⟨b,13,none⟩=some (.slice (some ⟨bn,0,none⟩) n kn))(hi:i<n):
  Calls Tryz.prog 236 #[.pointer (some ⟨b,0,none⟩)] w fun e w'=>e=.returned (ndp bn i)∧Ext w w':=by
 have h:((i:Int) == (n:Int))=false:=by simp;omega
 have i0:(0:Int)≤(i:Int):=by omega
 have i1:(i:Int)<(n:Int):=by omega
 go_enter Tryz.func236,Tryz.ntmps236;go_wp2_with fail;go_quiet (fail);obtain⟨m1,rfl⟩:∃m,m=nq:=⟨_,rfl⟩;go_wp2_with fail;go_quiet (fail);go_wp2_with fail;go_ret;exact⟨rfl,((Ext.refl _).drewN _).drewN _⟩
theorem GAt.setp[Inhabited ProtD]{B:Nat}{w w':World}{g:Nat}{x:Hp}{ar:Option Addr}{kr:Nat}{ac:Option Addr}{kc:Nat}{vg:Value}{br bc:Nat}{pb:Nat→Nat}{pa:Nat→Option Addr}{pk:Nat→Nat}{role:Nat→Nat}(h:GAt B w g x ar kr ac kc vg br bc pb pa pk role)(i:Nat)(hi:i<x.cells.length)(k:Nat)(hk:k<(x.c i).prs.length)(p':Pr)(o:Only (fun q=>q=pb i) w w')(nf:Nf1 (pb i) w')(hp:PrAt w' (pb i) (k*6) p')(ho:∀j,(j<k*6∨k*6+6≤j)→w'.cell? ⟨pb i,j,none⟩=w.cell? ⟨pb i,j,none⟩):
  GAt B w' g { x with cells:=x.cells.set i { x.c i with prs:=(x.c i).prs.set k p' } } ar kr ac kc vg br bc pb pa pk role:=by
 have hl0:0<(x.c i).prs.length:=by omega
 have ri:=h.sp.p i hi (h.rw.pw hi hl0);have far:∀q,q<w.heap.size→role q≠6+i→w'.heap[q]?=w.heap[q]?:=fun q hq hr=>o.block q hq (fun e=>hr (by rw[e];exact ri))
 have hn:0<x.cells.length:=by omega
 have hl:({ x with cells:=x.cells.set i { x.c i with prs:=(x.c i).prs.set k p' } }:Hp).cells.length=x.cells.length:=by simp
 have hc:=Hp.c_set x i { x.c i with prs:=(x.c i).prs.set k p' } hi;have hne:∀q,q≠i→(({ x with cells:=x.cells.set i { x.c i with prs:=(x.c i).prs.set k p' } }:Hp).c q)=x.c q:=fun q e=>by rw[hc q,if_neg e]
 have hei:(({ x with cells:=x.cells.set i { x.c i with prs:=(x.c i).prs.set k p' } }:Hp).c i)={ x.c i with prs:=(x.c i).prs.set k p' }:=by rw[hc i,if_pos rfl]
 have hpl:∀q,(({ x with cells:=x.cells.set i { x.c i with prs:=(x.c i).prs.set k p' } }:Hp).c q).prs.length=(x.c q).prs.length:=fun q=>by
  by_cases e:q=i
  ·rw[e,hei];simp
  ·rw[hne q e]
 have fg:=far g h.nf.1 (by rw[h.sp.g];omega);have fc:=far bc (h.rw.nc hn).1.1 (by rw[h.sp.c hn];omega);have pf:∀q,q<x.cells.length→q≠i→0<pk q→w'.heap[pb q]?=w.heap[pb q]?:=fun q hq hqi hl=>far (pb q) (h.rw.pl q hq hl).2.1.1 (by rw[h.sp.p q hq hl];omega)
 refine⟨?_,nf1_block h.nf fg o.size,h.lo,h.ha,fun _=>h.hc hn,⟨fun j hj=>?_,fun q hq=>?_,fun q hq=>?_,fun q hq j hj=>?_,fun q hq hlq=>?_,fun hr=>⟨nf1_block (h.rw.nr hr).1 (far br (h.rw.nr hr).1.1 (by rw[h.sp.r hr];omega)) o.size,(h.rw.nr hr).2⟩,fun _=>⟨nf1_block (h.rw.nc hn).1 fc o.size,(h.rw.nc hn).2⟩,fun _=>h.rw.d hn,fun q q' hq hq' hne h1 h2=>?_,fun q hq=>?_⟩,h.gr.block (fun q hq=>far q (h.gr.lt q hq).2 (by rw[h.sp.y q hq];omega)),⟨h.sp.g,h.sp.r,fun _=>h.sp.c hn,h.sp.y,fun q hq hlq=>?_⟩,by rw[hl];exact h.kl,h.pr.of (fun q hq h1=>far q hq (by rw[h1];omega)) (fun _ _ h=>h),fun hk=>(h.cc hk).block rfl (far bc (h.cc hk).nf.1 (by rw[(h.cc hk).ro];omega)) o.size⟩
 ·rw[hl];exact(h.bx.block fg)
 ·exact(h.rw.r j hj).of fun m _=>World.cell?_of_block (a:=⟨br,_,none⟩) (far br (h.rw.nr (by have:j<x.regs.length:=hj;omega)).1.1 (by rw[h.sp.r (by have:j<x.regs.length:=hj;omega)];omega))
 ·rw[hl] at hq;have key:S7 w' bc (q*8) (x.c q):=(h.rw.s q hq).of fun m _=>World.cell?_of_block (a:=⟨bc,_,none⟩) fc
  by_cases e:q=i
  ·subst e;rw[hei];exact key
  ·rw[hne q e];exact key
 ·rw[hl] at hq;rw[hpl q,World.cell?_of_block (a:=⟨bc,_,none⟩) fc];exact h.rw.p7 q hq
 ·rw[hl] at hq;rw[hpl q] at hj;by_cases e:q=i
  ·subst e;rw[hei];by_cases ej:j=k
   ·subst ej;have:({ x.c q with prs:=(x.c q).prs.set j p' }:Cl).p j=p':=by simp [Cl.p,hj]
    rw[this];exact hp
   ·have:({ x.c q with prs:=(x.c q).prs.set k p' }:Cl).p j=(x.c q).p j:=by
     have hkj:k≠j:=fun e=>ej e.symm
     simp [Cl.p,List.getElem?_set_ne hkj]
    rw[this];exact(h.rw.p q hq j hj).of fun m hm=>ho _ (by omega)
  ·rw[hne q e];exact(h.rw.p q hq j hj).of fun m _=>World.cell?_of_block (a:=⟨pb q,_,none⟩) (pf q hq e (h.rw.pw hq (by omega)))
 ·rw[hl] at hq;obtain⟨a1,a2,a3⟩:=h.rw.pl q hq hlq;by_cases e:q=i
  ·subst e;exact⟨a1,nfp_pair a2 nf hp ho,a3⟩
  ·exact⟨a1,nfp_block a2 (pf q hq e hlq) o.size,a3⟩
 ·rw[hl] at hq hq';exact h.rw.dp q q' hq hq' hne h1 h2
 ·rw[hl] at hq;rw[hpl q];exact h.rw.kp q hq
 ·rw[hl] at hq;exact h.sp.p q hq hlq
theorem SAt.boxed[Inhabited ProtD]{B:Nat}{w w':World}{b:Nat}{x x':Hp}{ar:Option Addr}{kr:Nat}{v4 v8:Value}{br bn:Nat}{cB cO:Nat→Nat}{pb:Nat→Nat}{pa:Nat→Option Addr}{pk:Nat→Nat}{kn hd:Nat}{vf:Value}{F:List Int}{vk:Value}{K:List Nat}{role:Nat→Nat}(h:SAt B w b x ar kr v4 v8 br cB cO bn pb pa pk kn hd vf F vk K role)(o:Only (fun q=>q=b) w w')(nf:Nf1 b w')(hr:x'.regs=x.regs)(hc:x'.cells=x.cells)(hg:x'.gray=x.gray)(bx:HBox w' b x' (.slice ar x.regs.length kr) v4 v8)(c:∀k,13≤k→w'.cell? ⟨b,k,none⟩=w.cell? ⟨b,k,none⟩):
  SAt B w' b x' ar kr v4 v8 br cB cO bn pb pa pk kn hd vf F vk K role:=by
 have far:∀q,q<w.heap.size→role q≠0→w'.heap[q]?=w.heap[q]?:=fun q hq hn=>o.block q hq (fun e=>hn (by rw[e];exact h.sp.b))
 have fn:=far bn h.sb.lo.2.2.1 (by rw[h.sp.n];omega);have cc:∀q,x'.c q=x.c q:=fun q=>by simp only [Hp.c,hc]
 have rw2:=h.rw.same o.size (fun hl=>far br (h.rw.nr hl).1.1 (by rw[h.sp.r hl];omega)) (fun q hq=>far (cB q) (h.rw.nc q hq).1.1 (by rw[h.sp.c q hq];omega)) (fun q hq hl=>far (pb q) (h.rw.pl q hq hl).2.1.1 (by rw[h.sp.p q hq hl];omega));refine⟨⟨by rw[hr];exact bx,by rw[hr];exact h.sb.ha,by rw[hc];exact(c 13 (by omega)).trans h.sb.n13,fun k hk=>?_,⟨(c 14 (by omega)).trans h.sb.fr.hd,nf.2 14,ownsRow_of_block h.sb.fr.own (fun q hq=>far q (h.sb.fr.own.lt q hq).2 (by rw[h.sp.f q hq];omega)),h.sb.fr.apart⟩,?_,(c 4017 (by omega)).trans h.sb.k0,ownsRow_of_block h.sb.kp (fun q hq=>far q (h.sb.kp.lt q hq).2 (by rw[h.sp.k q hq];omega)),nf,⟨h.sb.lo.1,h.sb.lo.2.1,h.sb.lo.2.2.of fn o.size⟩⟩,?_,?_,h.pr.of (fun q hq h1=>far q hq (by rw[h1];omega)) (fun _ _ h=>h)⟩
 ·rw[hc] at hk;exact⟨(World.cell?_of_block (a:=⟨bn,_,none⟩) fn).trans (h.sb.nd k hk).1,(World.cell?_of_block (a:=⟨bn,_,none⟩) fn).trans (h.sb.nd k hk).2⟩
 ·rw[hg];exact h.sb.rg.of fun o h1 _=>c o (by omega)
 ·refine⟨fun i hi=>?_,fun q hq=>?_,fun q hq=>?_,fun q hq k hk=>?_,fun q hq hl=>?_,?_,?_,?_,fun q q' hq hq' hne h1 h2=>?_,fun q q' hq hq' hne=>?_,fun q hq=>?_⟩
  ·have hi2:i<x.regs.length:=by rw[←hr];exact hi
   have e2:x'.regs[i]=x.regs[i]:=by simp [hr]
   rw[e2];exact rw2.r i hi2
  ·rw[hc] at hq;rw[cc];exact rw2.s q hq
  ·rw[hc] at hq;rw[cc];exact rw2.p7 q hq
  ·rw[hc] at hq;rw[cc] at hk ⊢;exact rw2.p q hq k hk
  ·rw[hc] at hq ⊢;exact rw2.pl q hq hl
  ·rw[hr];exact rw2.nr
  ·rw[hc];exact rw2.nc
  ·rw[hc];exact rw2.d
  ·rw[hc] at hq hq';exact rw2.dp q q' hq hq' hne h1 h2
  ·rw[hc] at hq hq';exact rw2.dc q q' hq hq' hne
  ·rw[hc] at hq;rw[cc];exact rw2.kp q hq
 ·refine⟨h.sp.b,h.sp.n,by rw[hr];exact h.sp.r,by rw[hc];exact h.sp.c,h.sp.f,h.sp.k,fun q hq hl=>?_⟩;rw[hc] at hq;exact h.sp.p q hq hl
def remU(x:Hp):Nat:=if x.phase=1∨x.phase=2 then 16000 else if x.phase=3 then 8000+(x.cells.length-x.hand.toNat) else if x.phase=4∨x.phase=5 then 8000 else if x.phase=6 then x.hand.toNat else 0
def KOk(x:Hp)(h:Nat)(K:List Nat):Prop:=K.Pairwise (· < ·)∧(∀i,i∈K→i<h∧(x.c i).st=1)∧∀i,i<h→(x.c i).st=1→i ∉ K→∀j,j<x.cells.length→(x.c j).st=0→i<j
structure SInv(C:Nat)(x:Hp)(F:List Int)(K:List Nat):Prop where
 ho:Ho F
 al:∀i,i<x.cells.length→(x.c i).st=0→(i:Int)∈F
 nn:∀v,v∈F→0≤v
 le:F.length+remU x≤C
 k3:x.phase=3→KOk x x.hand.toNat K
 k4:x.phase=4→K.Pairwise (· < ·)∧(∀i,i∈K→i<x.cells.length∧(x.c i).st=1)∧∀i,i<x.cells.length→(x.c i).st=1→i ∉ K→∀j,j<x.cells.length→(x.c j).st=0→i<j
 k0:x.phase≠3→x.phase≠4→K=[]
def SOk[Inhabited ProtD](C B:Nat)(w:World)(b:Nat)(x:Hp):Prop:=∃ar kr v4 v8 br cB cO bn pb pa pk kn hd vf F vk K role,SAt B w b x ar kr v4 v8 br cB cO bn pb pa pk kn hd vf F vk K role∧SInv C x F K
theorem SOk.ext[Inhabited ProtD]{C B:Nat}{w w':World}{b:Nat}{x:Hp}(h:SOk C B w b x)(e:Ext w w'):SOk C B w' b x:=by
 obtain⟨ar,kr,v4,v8,br,cB,cO,bn,pb,pa,pk,kn,hd,vf,F,vk,K,role,h,i⟩:=h;exact⟨ar,kr,v4,v8,br,cB,cO,bn,pb,pa,pk,kn,hd,vf,F,vk,K,role,h.ext e,i⟩
theorem SAt.usedTo[Inhabited ProtD]{B:Nat}{w:World}{b:Nat}{x:Hp}{ar:Option Addr}{kr:Nat}{v4 v8:Value}{br bn:Nat}{cB cO:Nat→Nat}{pb:Nat→Nat}{pa:Nat→Option Addr}{pk:Nat→Nat}{kn hd:Nat}{vf:Value}{F:List Int}{vk:Value}{K:List Nat}{role:Nat→Nat}(h:SAt B w b x ar kr v4 v8 br cB cO bn pb pa pk kn hd vf F vk K role)(u:Int):
  SAt B (w.setCell ⟨b,1,none⟩ (iv u)) b { x with used:=u } ar kr v4 v8 br cB cO bn pb pa pk kn hd vf F vk K role:=by
 refine h.boxed (x':={ x with used:=u }) (Only.setCell (S:=fun q=>q=b) (Only.refl _ w) (p:=⟨b,1,none⟩) rfl _) (h.sb.nb.set _ _) rfl rfl rfl (h.sb.bx.set1 u) (fun k hk=>cell_other _ (.inr (by omega)))
theorem SAt.subs[Inhabited ProtD]{B:Nat}{w:World}{b:Nat}{x:Hp}{ar:Option Addr}{kr:Nat}{v4 v8:Value}{br bn:Nat}{cB cO:Nat→Nat}{pb:Nat→Nat}{pa:Nat→Option Addr}{pk:Nat→Nat}{kn hd:Nat}{vf:Value}{F:List Int}{vk:Value}{K:List Nat}{role:Nat→Nat}(h:SAt B w b x ar kr v4 v8 br cB cO bn pb pa pk kn hd vf F vk K role)(v:Int):
  SAt B (w.setCell ⟨b,7,none⟩ (iv v)) b { x with sub:=v } ar kr v4 v8 br cB cO bn pb pa pk kn hd vf F vk K role:=by
 refine h.boxed (x':={ x with sub:=v }) (Only.setCell (S:=fun q=>q=b) (Only.refl _ w) (p:=⟨b,7,none⟩) rfl _) (h.sb.nb.set _ _) rfl rfl rfl (h.sb.bx.set7 v) (fun k hk=>cell_other _ (.inr (by omega)))
theorem GAt.drop[Inhabited ProtD]{B:Nat}{w:World}{g:Nat}{x:Hp}{ar:Option Addr}{kr:Nat}{ac:Option Addr}{kc:Nat}{vg:Value}{br bc:Nat}{pb:Nat→Nat}{pa:Nat→Option Addr}{pk:Nat→Nat}{role:Nat→Nat}(h:GAt B w g x ar kr ac kc vg br bc pb pa pk role)(i:Nat)(hi:i+1=x.cells.length):
  GOk B (w.setCell ⟨g,4,none⟩ (.slice ac i kc)) g { x with cells:=x.cells.take i }:=by
 have far:∀q,q<w.heap.size→role q≠0→(w.setCell ⟨g,4,none⟩ (.slice ac i kc)).heap[q]?=w.heap[q]?:=fun q hq hn=>Below.heap_setCell _ _ _ _ (fun e=>hn (by rw[e];exact h.sp.g))
 have rw2:=h.rw.same (w':=w.setCell ⟨g,4,none⟩ (.slice ac i kc)) (by simp [World.setCell]) (fun hl=>far br (h.rw.nr hl).1.1 (by rw[h.sp.r hl];omega)) (fun hl=>far bc (h.rw.nc hl).1.1 (by rw[h.sp.c hl];omega)) (fun q hq hl=>far (pb q) (h.rw.pl q hq hl).2.1.1 (by rw[h.sp.p q hq hl];omega));have hl:({ x with cells:=x.cells.take i }:Hp).cells.length=i:=by simp;omega
 have hn:0<x.cells.length:=by omega
 have hc:∀q,q<i→({ x with cells:=x.cells.take i }:Hp).c q=x.c q:=fun q hq=>by
  simp only [Hp.c,List.getD_eq_getElem?_getD,List.getElem?_take_of_lt hq]
 refine⟨ar,kr,ac,kc,vg,br,bc,pb,pa,pk,role,?_,h.nf.set _ _,h.lo,h.ha,fun _=>h.hc hn,⟨rw2.r,fun q hq=>?_,fun q hq=>?_,fun q hq k hk=>?_,fun q hq hlq=>?_,rw2.nr,fun _=>rw2.nc hn,fun _=>rw2.d hn,fun q q' hq hq' hne h1 h2=>?_,fun q hq=>?_⟩,h.gr.block (fun q hq=>far q (h.gr.lt q hq).2 (by rw[h.sp.y q hq];omega)),⟨h.sp.g,h.sp.r,fun _=>h.sp.c hn,h.sp.y,fun q hq hlq=>?_⟩,by rw[hl];have:=h.kl;omega,h.pr.of (fun q hq h1=>far q hq (by rw[h1];omega)) (fun _ _ h=>h),fun hk=>(h.cc hk).block rfl (far bc (h.cc hk).nf.1 (by rw[(h.cc hk).ro];omega)) (by simp [World.setCell])⟩
 ·rw[hl];exact h.bx.set4 _
 ·rw[hl] at hq;rw[hc q hq];exact rw2.s q (by omega)
 ·rw[hl] at hq;rw[hc q hq];exact rw2.p7 q (by omega)
 ·rw[hl] at hq;rw[hc q hq] at hk ⊢;exact rw2.p q (by omega) k hk
 ·rw[hl] at hq;exact rw2.pl q (by omega) hlq
 ·rw[hl] at hq hq';exact rw2.dp q q' (by omega) (by omega) hne h1 h2
 ·rw[hl] at hq;rw[hc q hq];exact rw2.kp q (by omega)
 ·rw[hl] at hq;exact h.sp.p q (by omega) hlq
theorem GAt.setr[Inhabited ProtD]{B:Nat}{w w':World}{g:Nat}{x:Hp}{ar:Option Addr}{kr:Nat}{ac:Option Addr}{kc:Nat}{vg:Value}{br bc:Nat}{pb:Nat→Nat}{pa:Nat→Option Addr}{pk:Nat→Nat}{role:Nat→Nat}(h:GAt B w g x ar kr ac kc vg br bc pb pa pk role)(j:Nat)(hj:j<x.regs.length)(y:Wd)(o:Only (fun q=>q=br) w w')(nf:Nf1 br w')(hy:WdAt w' br (j*3) y)(ho:∀m,(m<j*3∨j*3+3≤m)→w'.cell? ⟨br,m,none⟩=w.cell? ⟨br,m,none⟩):
  GAt B w' g { x with regs:=x.regs.set j y } ar kr ac kc vg br bc pb pa pk role:=by
 have hr:0<x.regs.length:=by omega
 have far:∀q,q<w.heap.size→role q≠2→w'.heap[q]?=w.heap[q]?:=fun q hq hn=>o.block q hq (fun e=>hn (by rw[e];exact h.sp.r hr))
 have fg:=far g h.nf.1 (by rw[h.sp.g];omega);have hl:({ x with regs:=x.regs.set j y }:Hp).regs.length=x.regs.length:=by simp
 have pf:∀q,q<x.cells.length→0<pk q→w'.heap[pb q]?=w.heap[pb q]?:=fun q hq hl=>far (pb q) (h.rw.pl q hq hl).2.1.1 (by rw[h.sp.p q hq hl];omega)
 have fc:0<x.cells.length→w'.heap[bc]?=w.heap[bc]?:=fun hn=>far bc (h.rw.nc hn).1.1 (by rw[h.sp.c hn];omega)
 refine⟨?_,nf1_block h.nf fg o.size,h.lo,fun _=>h.ha hr,h.hc,⟨fun m hm=>?_,fun q hq=>?_,fun q hq=>?_,fun q hq k hk=>?_,fun q hq hlq=>?_,fun _=>⟨nf,(h.rw.nr hr).2⟩,fun hn=>⟨nf1_block (h.rw.nc hn).1 (fc hn) o.size,(h.rw.nc hn).2⟩,h.rw.d,h.rw.dp,h.rw.kp⟩,h.gr.block (fun q hq=>far q (h.gr.lt q hq).2 (by rw[h.sp.y q hq];omega)),⟨h.sp.g,fun _=>h.sp.r hr,h.sp.c,h.sp.y,h.sp.p⟩,h.kl,h.pr.of (fun q hq h1=>far q hq (by rw[h1];omega)) (fun _ _ h=>h),fun hk=>(h.cc hk).block rfl (far bc (h.cc hk).nf.1 (by rw[(h.cc hk).ro];omega)) o.size⟩
 ·rw[hl];exact h.bx.block fg
 ·have hm2:m<x.regs.length:=by rw[hl] at hm;exact hm
  by_cases e:m=j
  ·subst e;have:({ x with regs:=x.regs.set m y }:Hp).regs[m]=y:=by simp
   rw[this];exact hy
  ·have hne:j≠m:=fun e2=>e e2.symm
   have:({ x with regs:=x.regs.set j y }:Hp).regs[m]=x.regs[m]:=by simp [hne]
   rw[this];exact(h.rw.r m hm2).of fun l hl=>ho _ (by omega)
 ·exact(h.rw.s q hq).of fun m _=>World.cell?_of_block (a:=⟨bc,_,none⟩) (fc (by have:q<x.cells.length:=hq;omega))
 ·rw[World.cell?_of_block (a:=⟨bc,_,none⟩) (fc (by have:q<x.cells.length:=hq;omega))];exact h.rw.p7 q hq
 ·exact(h.rw.p q hq k hk).of fun m _=>World.cell?_of_block (a:=⟨pb q,_,none⟩) (pf q hq (h.rw.pw hq (by have:k<(x.c q).prs.length:=hk;omega)))
 ·obtain⟨a1,a2,a3⟩:=h.rw.pl q hq hlq;exact⟨a1,nfp_block a2 (pf q hq hlq) o.size,a3⟩
theorem GAt.move[Inhabited ProtD]{B:Nat}{w w':World}{g:Nat}{x:Hp}{ar:Option Addr}{kr:Nat}{ac:Option Addr}{kc:Nat}{vg:Value}{br bc:Nat}{pb:Nat→Nat}{pa:Nat→Option Addr}{pk:Nat→Nat}{role:Nat→Nat}(h:GAt B w g x ar kr ac kc vg br bc pb pa pk role)(t f:Nat)(htf:t≠f)(ht:t<x.cells.length)(hf:f<x.cells.length)(o:Only (fun q=>q=bc) w w')(nf:Nf1 bc w')(hs:S7 w' bc (t*8) (x.c f))(h7:w'.cell? ⟨bc,t*8+7,none⟩=some (.slice (pa f) (x.c f).prs.length (pk f)))(gs:S7 w' bc (f*8) (mvC t))(g7:w'.cell? ⟨bc,f*8+7,none⟩=some (.slice none 0 0))
  (ho:∀q,q<x.cells.length→q≠t→q≠f→∀k,k<8→w'.cell? ⟨bc,q*8+k,none⟩=w.cell? ⟨bc,q*8+k,none⟩) (hcc:∀j,x.cells.length*8≤j→w'.cell? ⟨bc,j,none⟩=w.cell? ⟨bc,j,none⟩) :
  ∃pb' pa' pk' role',GAt B w' g { x with cells:=(x.cells.set t (x.c f)).set f (mvC t) } ar kr ac kc vg br bc pb' pa' pk' role':=by
 have hc:∀q,({ x with cells:=(x.cells.set t (x.c f)).set f (mvC t) }:Hp).c q=if q=f then mvC t else if q=t then x.c f else x.c q:=fun q=>by
  have h1:=Hp.c_set { x with cells:=x.cells.set t (x.c f) } f (mvC t) (by simpa using hf) q;have h2:=Hp.c_set x t (x.c f) ht q;have e:({ x with cells:=(x.cells.set t (x.c f)).set f (mvC t) }:Hp)={ ({ x with cells:=x.cells.set t (x.c f) }:Hp) with cells:=({ x with cells:=x.cells.set t (x.c f) }:Hp).cells.set f (mvC t) }:=rfl;rw[e,h1];by_cases e1:q=f
  ·rw[if_pos e1,if_pos e1]
  ·rw[if_neg e1,if_neg e1];exact h2
 refine⟨_,_,_,_,h.turn ((x.cells.set t (x.c f)).set f (mvC t)) (by simp) (fun q=>if q=t then f else q) (fun q=>if q=f then none else if q=t then pa f else pa q) (fun q=>if q=f then 0 else if q=t then pk f else pk q) (fun b=>if 0<pk f∧b=pb f then 6+t else role b) (by omega) o nf (fun q hq=>?_) (fun q hq=>?_) (fun q hq=>?_) (fun q hq hl=>?_) (fun b hb=>?_) hcc⟩
 ·rw[hc q];by_cases e1:q=f
  ·subst e1;rw[if_pos rfl];exact gs
  ·rw[if_neg e1];by_cases e2:q=t
   ·subst e2;rw[if_pos rfl];exact hs
   ·rw[if_neg e2];exact(h.rw.s q hq).of fun j hj=>ho q hq e2 e1 j (by omega)
 ·rw[hc q];by_cases e1:q=f
  ·subst e1;simp only [if_true];exact g7
  ·simp only [if_neg e1];by_cases e2:q=t
   ·subst e2;simp only [if_true];exact h7
   ·simp only [if_neg e2];rw[ho q hq e2 e1 7 (by omega)];exact h.rw.p7 q hq
 ·rw[hc q];by_cases e1:q=f
  ·rw[if_pos e1];simp [mvC]
  ·simp only [if_neg e1];by_cases e2:q=t
   ·simp only [if_pos e2];exact h.rw.kp f hf
   ·simp only [if_neg e2];exact h.rw.kp q hq
 ·rw[hc q];by_cases e1:q=f
  ·rw[if_pos e1] at hl;omega
  ·rw[if_neg e1] at hl;simp only [if_neg e1];by_cases e2:q=t
   ·rw[if_pos e2] at hl;simp only [if_pos e2];exact⟨⟨hf,trivial⟩,trivial,trivial,by rw[if_pos ⟨hl,trivial⟩,e2]⟩
   ·rw[if_neg e2] at hl;simp only [if_neg e2];refine⟨⟨hq,trivial⟩,trivial,trivial,?_⟩;rw[if_neg (fun e=>?_)]
    ·exact h.sp.p q hq hl
    ·have r1:=h.sp.p q hq hl;have r2:=h.sp.p f hf e.1;rw[e.2] at r1;omega
 ·by_cases e:0<pk f∧b=pb f
  ·have r2:=h.sp.p f hf e.1;rw[←e.2] at r2;omega
  ·rw[if_neg e]
end Go.Proofs.YtddkhnclmeikfaaGreat
