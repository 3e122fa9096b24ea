import Derived.Test.YtnegjhddmfiefaaGreatDoorYk
import Derived.Below
import Derived.Defers
import Derived.Recover
import Derived.WalkMore
set_option maxRecDepth 100000
set_option maxHeartbeats 1000000
namespace Go.Proofs.YtnegjhddmfiefaaGreatDoor
open Go.RowKit
attribute [local go_sem ↓] Go.wp_at_zero Go.wp_at_succ
theorem LibAt.ext{W W':World}(h:LibAt W)(x:Ext W W'):LibAt W':=by
 obtain⟨⟨m,h1⟩,⟨t,p,h2⟩,⟨t',p',h3⟩⟩:=h;exact⟨⟨m,x.keep h1⟩,⟨t,p,x.keep h2⟩,⟨t',p',x.keep h3⟩⟩
def Cx(w0 W:World)(b:Nat):Prop:=Tab w0∧LibAt w0∧w0.heap.size≤b∧Ext w0 W
theorem Cx.lib{w0 W:World}{b:Nat}(h:Cx w0 W b):LibAt W:=h.2.1.ext h.2.2.2
theorem Cx.tab{w0 W:World}{b:Nat}(h:Cx w0 W b):Tab W:=h.1.ext h.2.2.2
theorem Cx.far{w0 W:World}{b:Nat}(h:Cx w0 W b):2<b:=by
 obtain⟨⟨m,h1⟩,_⟩:=h.2.1;have k:2<w0.heap.size:=cell_lt h1;exact Nat.lt_of_lt_of_le k h.2.2.1
theorem Cx.on{w0 W W':World}{b:Nat}(h:Cx w0 W b)(o:Only (fun q=>q=b) W W'):Cx w0 W' b:=⟨h.1,h.2.1,h.2.2.1,o.ext h.2.2.2 (fun k hk e=>by have:=h.2.2.1;omega)⟩
theorem Cx.ext{w0 W W':World}{b:Nat}(h:Cx w0 W b)(x:Ext W W'):Cx w0 W' b:=⟨h.1,h.2.1,h.2.2.1,h.2.2.2.trans x⟩
def RoomEnd(tx:List UInt8)(b:Nat)(e:Ending)(w':World):Prop:=(∃line rest' r,cutN tx=some (line,rest')∧roomO line=some r∧e=.returned (.int .i64 r)∧RdAt w' b rest' 1)∨((∀line rest',cutN tx=some (line,rest')→roomO line=none)∧e=faultP 1)
theorem room_any(w0 W:World)(b:Nat)(tx:List UInt8)(hcx:Cx w0 W b)(h:RdAt W b tx 0)(hl:tx.length≤20000):
  Calls Tryz.prog 42 #[.pointer (some ⟨b,0,none⟩)] W fun e w'=>Hid (RoomEnd tx b e w')∧Only (fun q=>q=b) W w':=by
 have HC:=hide hcx;cases qc:cutN tx with
 | none=>
  have QW:=hide (words_none b 0 tx W h hcx.far hcx.lib hl (by omega) qc);have NO:=hide (show ∀line rest',cutN tx=some (line,rest')→roomO line=none from fun line rest' e=>by rw[qc] at e;cases e);clear h hcx;go_enter Tryz.func42,Tryz.ntmps42;go_wp2_with fail;refine(unhide QW).mono ?_;rintro e w2 ⟨he,o2⟩;have e2:=unhide he;subst e2;exact⟨rfl,hide (.inr ⟨unhide NO,rfl⟩),o2⟩
 | some lr=>
  obtain⟨line,rest'⟩:=lr;have QW:=hide (words_some b 0 tx line rest' W h hcx.far hcx.lib hl (by omega) qc);have hlen:=cutN_len qc;have QC:=hide qc;clear h hcx qc;go_enter Tryz.func42,Tryz.ntmps42;go_wp2_with fail;refine(unhide QW).mono ?_;rintro e w2 ⟨v,he,hown,hr2,o2⟩;have e2:=unhide he;clear he;subst e2;have C2:=hide ((unhide HC).on o2);have R2:=hide hr2;have WL:=hide (word_le (l:=line));obtain⟨ad,cap,hv,hx⟩:=own_strs (unhide hown);subst hv;have HX:=hide hx;have NOf:=hide (show roomO line=none→∀l r,cutN tx=some (l,r)→roomO l=none from fun hn l r e=>by rw[unhide QC] at e;cases e;exact hn);clear hx hown hr2;by_cases h2:(wordsL line).length=2;rotate_left
  ·have NO:=hide (unhide NOf (roomO_len h2));have q1:(((wordsL line).length:Int) == 2)=false:=by simp;omega
   go_wp2_with fail;refine(must_no b 1 rest' w2 (unhide R2)).mono ?_;rintro e w3 ⟨rfl,hw3⟩;subst hw3;exact⟨rfl,hide (.inr ⟨unhide NO,rfl⟩),o2⟩
  ·obtain⟨wd,r,hw⟩:∃w0 r,wordsL line=[w0,r]:=by
    match q:wordsL line,h2 with
    | [a,b],_=>exact⟨a,b,rfl⟩
   have RL:=unhide WL r (by rw[hw];simp);have HW:=hide hw;obtain⟨L,hL⟩:∃L,L=wordsL line:=⟨_,rfl⟩;rw[←hL] at HX;have hL2:L=[wd,r]:=hL.trans hw;subst hL2;obtain⟨g,hg,c0⟩:=unhide HX 0 (by simp);obtain⟨g1,hg1,c1⟩:=unhide HX 1 (by simp);subst hg;cases hg1;simp only [List.getElem_cons_zero,List.getElem_cons_succ] at c0 c1;have hlen2:(wordsL line).length=2:=h2;rw[hlen2];clear HX hL hw h2 hlen2 QW WL;cases q:(wd == [114,111,111,109])
   ·have NO:=hide (unhide NOf (roomO_name (unhide HW) q));go_wp2_with fail;refine(must_no b 1 rest' w2 (unhide R2)).mono ?_;rintro e w3 ⟨rfl,hw3⟩;subst hw3;exact⟨rfl,hide (.inr ⟨unhide NO,rfl⟩),o2⟩
   ·have TW:=hide (roomO_two (unhide HW) q);have QN:=hide (number_any b 1 rest' r w2 (unhide R2) (unhide C2).lib (unhide C2).tab.1 (by omega));go_wp2_with fail;refine(must_yes b w2).mono ?_;rintro e w3 ⟨rfl,hw3⟩;subst hw3;go_wp2_with fail;refine(unhide QN).mono ?_;rintro e w4 ⟨hn,x4⟩;rcases hn with⟨qb,he⟩ | ⟨qb,he⟩
    rotate_left
    ·have NO:=hide (unhide NOf (show roomO line=none by rw[unhide TW,if_neg];unfold roomGood;rw[qb];simp));have e2:=unhide he;subst e2;exact⟨rfl,hide (.inr ⟨unhide NO,rfl⟩),o2.trans (Only.of_ext x4)⟩
    ·have e2:=unhide he;clear he;subst e2;have R4:=hide ((unhide R2).ext x4)
     have RG:=hide (show roomGood r=withinB (numV r) 1 4000 by
      unfold roomGood withinB;rw[qb,Bool.true_and];by_cases h1:1≤numV r <;> by_cases h2:numV r≤4000 <;> simp [h1,h2])
     obtain⟨nv,hnv⟩:∃x,x=numV r:=⟨_,rfl⟩;rw[←hnv] at RG TW ⊢;clear hnv;cases q5:withinB nv 1 4000
     ·have QI:=hide (fun V=>q5 ▸ within_any nv 1 4000 V);have NO:=hide (unhide NOf (show roomO line=none by rw[unhide TW,unhide RG,q5];rfl));go_wp2_with (go_at_call 32;refine(unhide QI _).mono ?_;rintro e w5 ⟨rfl,rfl⟩);refine(must_no b 1 rest' w5 (unhide R4)).mono ?_;rintro e w6 ⟨rfl,hw6⟩;subst hw6;exact⟨rfl,hide (.inr ⟨unhide NO,rfl⟩),o2.trans (Only.of_ext x4)⟩
     ·have QI:=hide (fun V=>q5 ▸ within_any nv 1 4000 V);have YS:=hide (show roomO line=some nv by rw[unhide TW,unhide RG,q5];rfl);go_wp2_with (go_at_call 32;refine(unhide QI _).mono ?_;rintro e w5 ⟨rfl,rfl⟩);refine(must_yes b w5).mono ?_;rintro e w6 ⟨rfl,hw6⟩;subst hw6;go_wp2_with fail;go_ret;exact⟨hide (.inl ⟨line,rest',nv,unhide QC,unhide YS,rfl,unhide R4⟩),o2.trans (Only.of_ext x4)⟩
theorem withField_any(x:Ak)(c n:Int)(w:World):Calls Tryz.prog 111 #[x.v,.int .i32 c,.int .i64 n] w fun e w'=>e=.returned (x.put c n).v∧Ext w w':=by
 by_cases q1:c=65
 ·subst q1;go_enter Tryz.func111,Tryz.ntmps111
  go_wp2
  exact bodyPost_ret (v:=(x.put 65 n).v) (by simp [results,Tryz.results111,go_sem,Ak.put]) rfl ⟨rfl,((Ext.refl _).alloc _).alloc _⟩
 ·by_cases q2:c=66
  ·subst q2;go_enter Tryz.func111,Tryz.ntmps111
   go_wp2
   exact bodyPost_ret (v:=(x.put 66 n).v) (by simp [results,Tryz.results111,go_sem,Ak.put]) rfl ⟨rfl,((Ext.refl _).alloc _).alloc _⟩
  ·by_cases q3:c=67
   ·subst q3;go_enter Tryz.func111,Tryz.ntmps111
    go_wp2
    exact bodyPost_ret (v:=(x.put 67 n).v) (by simp [results,Tryz.results111,go_sem,Ak.put]) rfl ⟨rfl,((Ext.refl _).alloc _).alloc _⟩
   ·have E:=hide (show x.put c n={ x with n:=n } by unfold Ak.put;rw[if_neg q1,if_neg q2,if_neg q3]);have r1:(c == 65)=false:=by simpa using q1
    have r2:(c == 66)=false:=by simpa using q2
    have r3:(c == 67)=false:=by simpa using q3
    clear q1 q2 q3;rw[unhide E];go_enter Tryz.func111,Tryz.ntmps111
    go_wp2
    exact bodyPost_ret (v:=({ x with n:=n }:Ak).v) (by simp [results,Tryz.results111,go_sem]) rfl ⟨rfl,((Ext.refl _).alloc _).alloc _⟩
def actP(k:Nat)(ws:List (List UInt8))(j:Nat):Ak:=mkAct k (((letL (k:Nat)).zip (ws.map numV)).take j)
theorem actP_zero(k:Nat)(ws:List (List UInt8)):actP k ws 0=⟨k,0,0,0,0⟩:=rfl
theorem actP_step(k:Nat)(ws:List (List UInt8))(j:Nat)(h1:j<(letL (k:Nat)).length)(h2:j<ws.length):actP k ws (j+1)=(actP k ws j).put (((letL (k:Nat))[j].toNat:Nat):Int) (numV ws[j]):=by
 unfold actP mkAct;have hz:j<((letL (k:Nat)).zip (ws.map numV)).length:=by simp;omega
 rw[List.take_succ_eq_append_getElem hz,List.foldl_append];simp
theorem actP_end(k:Nat)(ws:List (List UInt8))(h:ws.length=(letL (k:Nat)).length):actP k ws (letL (k:Nat)).length=actOf k ws:=by
 unfold actP actOf;rw[List.take_of_length_le (by simp;omega)]
theorem good_no_len{k:Nat}{ws:List (List UInt8)}(h:ws.length≠(letL (k:Nat)).length):actGood k ws=false:=by
 unfold actGood;rw[decide_eq_false h];rfl
theorem good_no_num{k:Nat}{ws:List (List UInt8)}{j:Nat}(hj:j<ws.length)(h:numB ws[j]=false):actGood k ws=false:=by
 cases q:actGood k ws with
 | false=>rfl
 | true=>
  have:=(good_num q).2.1 _ (List.getElem_mem hj);rw[h] at this;cases this
theorem good_last{k:Nat}{ws:List (List UInt8)}(h:ws.length=(letL (k:Nat)).length)(hn:∀x∈ws,numB x=true):actGood k ws=okA (actOf k ws):=by
 unfold actGood;rw[decide_eq_true h,List.all_eq_true.2 hn];rfl
def ActEnd(k:Nat)(ws:List (List UInt8))(ln:Nat)(e:Ending):Prop:=(actGood k ws=true∧e=.returned (actOf k ws).v)∨(actGood k ws=false∧e=faultP ln)
theorem set5_at{w:World}{b:Nat}(y:Ak)(h:∀o,o<5→Open w b o):AkAt (set5 w b y) b 0 y∧∀o,o<5→Open (set5 w b y) b o:=by
 refine⟨⟨?_,?_,?_,?_,?_⟩,fun o ho=>((((((h o ho).set _ _).set _ _).set _ _).set _ _).set _ _)⟩
 ·unfold set5;rw[cell_other _ (.inr (by omega)),cell_other _ (.inr (by omega)),cell_other _ (.inr (by omega)),cell_other _ (.inr (by omega))];exact(h 0 (by omega)).same _
 ·unfold set5;rw[cell_other _ (.inr (by omega)),cell_other _ (.inr (by omega)),cell_other _ (.inr (by omega))];exact((h 1 (by omega)).set _ _).same _
 ·unfold set5;rw[cell_other _ (.inr (by omega)),cell_other _ (.inr (by omega))];exact(((h 2 (by omega)).set _ _).set _ _).same _
 ·unfold set5;rw[cell_other _ (.inr (by omega))];exact((((h 3 (by omega)).set _ _).set _ _).set _ _).same _
 ·unfold set5;exact(((((h 4 (by omega)).set _ _).set _ _).set _ _).set _ _).same _
theorem set5_ext{w W:World}{b:Nat}(y:Ak)(h:Ext w W)(hb:w.heap.size≤b):Ext w (set5 W b y):=
 ((((h.setCell (p:=⟨b,0,none⟩) hb (iv y.op)).setCell (p:=⟨b,1,none⟩) hb (iv y.a)).setCell (p:=⟨b,2,none⟩) hb (iv y.b)).setCell (p:=⟨b,3,none⟩) hb (iv y.c)).setCell (p:=⟨b,4,none⟩) hb (iv y.n)
theorem number_yes(b ln:Nat)(rest l:List UInt8)(W:World)(h:RdAt W b rest ln)(hL:LibAt W)(hp:PowAt W)(hl:l.length≤20000)(q:numB l=true):
  Calls Tryz.prog 78 #[.pointer (some ⟨b,0,none⟩),.string (sB l)] W fun e w'=>e=.returned (.int .i64 (numV l))∧Ext W w':=by
 refine(number_any b ln rest l W h hL hp hl).mono ?_;rintro e w' ⟨h1 | h1,x⟩
 ·exact⟨unhide h1.2,x⟩
 ·rw[q] at h1;cases h1.1
theorem number_no(b ln:Nat)(rest l:List UInt8)(W:World)(h:RdAt W b rest ln)(hL:LibAt W)(hp:PowAt W)(hl:l.length≤20000)(q:numB l=false):
  Calls Tryz.prog 78 #[.pointer (some ⟨b,0,none⟩),.string (sB l)] W fun e w'=>e=faultP ln∧Ext W w':=by
 refine(number_any b ln rest l W h hL hp hl).mono ?_;rintro e w' ⟨h1 | h1,x⟩
 ·rw[q] at h1;cases h1.1
 ·exact⟨unhide h1.2,x⟩
theorem act_any(w0 W:World)(b ln k g cap:Nat)(ad:Option Addr)(rest:List UInt8)(ws:List (List UInt8))(had:0<ws.length→ad=some ⟨g,1,none⟩)(hcx:Cx w0 W b)(h:RdAt W b rest ln)(hk1:1≤k)(hk2:k≤24)(hwl:∀x∈ws,x.length≤20000)(hc:∀i (hi:i<ws.length),W.cell? ⟨g,1+i,none⟩=some (.string (sB ws[i]))):
  Calls Tryz.prog 79 #[.pointer (some ⟨b,0,none⟩),.int .i64 k,.slice ad ws.length cap] W fun e w'=>Hid (ActEnd k ws ln e)∧Ext W w':=by
 have HC:=hide hcx;have RD:=hide h;have HAD:=hide had;clear had;have CS:=hide hc;have WL:=hide hwl;have f1:=(hcx.tab.2 k (by omega)).2;have g0:0<W.heap.size:=cell_lt f1;have LL:=letL_len (k:Int);have LA:=hide (letL_ascii (k:Int));obtain⟨lt,hlt⟩:∃s,s=letL (k:Nat):=⟨_,rfl⟩;have HLT:=hide hlt;rw[←hlt] at f1 LL LA;have hk0:(0:Int)≤(k:Int):=by omega
 have hk3:(k:Int)<25:=by omega
 clear hcx h hc hwl hlt;go_enter Tryz.func79,Tryz.ntmps79;go_wp2_with fail;obtain⟨WA,hWA⟩:∃V,V=(W.alloc (.cells #[.int .i64 0,.int .i64 0,.int .i64 0,.int .i64 0,.int .i64 0] 43)).alloc (.cells #[.int .i64 (k:Int),.int .i64 0,.int .i64 0,.int .i64 0,.int .i64 0] 43):=⟨_,rfl⟩;rw[←hWA];have xA:Ext W WA:=hWA ▸ ((Ext.refl W).alloc _).alloc _;have sA:WA.heap.size=W.heap.size+1+1:=by rw[hWA];simp
 have AA:=hide (show AkAt WA (W.heap.size+1) 0 (actP k ws 0) by
  rw[hWA,actP_zero];exact⟨by simp [go_sem],by simp [go_sem],by simp [go_sem],by simp [go_sem],by simp [go_sem]⟩)
 have OA:=hide (show ∀j,j<5→Open WA (W.heap.size+1) j from fun j hj=>by
  rw[hWA]
  match j,hj with
  | 0,_=>exact⟨⟨iv (k:Int),by simp [go_sem]⟩,by simp [go_sem]⟩
  | 1,_=>exact⟨⟨iv 0,by simp [go_sem]⟩,by simp [go_sem]⟩
  | 2,_=>exact⟨⟨iv 0,by simp [go_sem]⟩,by simp [go_sem]⟩
  | 3,_=>exact⟨⟨iv 0,by simp [go_sem]⟩,by simp [go_sem]⟩
  | 4,_=>exact⟨⟨iv 0,by simp [go_sem]⟩,by simp [go_sem]⟩)
 have OR:=hide (show ∀j,j<5→Open WA W.heap.size j from fun j hj=>by
  rw[hWA]
  match j,hj with
  | 0,_=>exact⟨⟨iv 0,by simp [go_sem]⟩,by simp [go_sem]⟩
  | 1,_=>exact⟨⟨iv 0,by simp [go_sem]⟩,by simp [go_sem]⟩
  | 2,_=>exact⟨⟨iv 0,by simp [go_sem]⟩,by simp [go_sem]⟩
  | 3,_=>exact⟨⟨iv 0,by simp [go_sem]⟩,by simp [go_sem]⟩
  | 4,_=>exact⟨⟨iv 0,by simp [go_sem]⟩,by simp [go_sem]⟩)
 clear hWA f1 g0;by_cases hlen:ws.length=lt.length;rotate_left
 ·have NO:=hide (show actGood k ws=false from good_no_len (by rw[←unhide HLT];exact hlen));have q1:((ws.length:Int) == (lt.length:Int))=false:=by simp;omega
  rw[q1];refine(must_no b ln rest WA ((unhide RD).ext xA)).mono ?_;rintro e w3 ⟨rfl,hw3⟩;subst hw3;exact⟨rfl,hide (.inr ⟨unhide NO,rfl⟩),xA⟩
 ·have q1:((ws.length:Int) == (lt.length:Int))=true:=by simp;omega
  rw[q1];clear q1;refine(must_yes b WA).mono ?_;rintro e w3 ⟨rfl,hw3⟩;subst hw3
  have IT:=hide (show(w3.iter ⟨lt.toArray⟩ 0).heap[W.heap.size+1+1]?=some (.stringIter ⟨lt.toArray⟩ 0) by
   have:=World.iter_heap w3 ⟨lt.toArray⟩ 0
   rwa [sA] at this)
  have HLEN:=hide hlen;clear hlen;go_wp2_with fail;go_loopw [] (fun wr=>∃j:Nat,j≤lt.length∧Hid (wr.heap[W.heap.size+1+1]?=some (.stringIter ⟨lt.toArray⟩ j))∧Hid (AkAt wr (W.heap.size+1) 0 (actP k ws j))∧Hid (∀o,o<5→Open wr (W.heap.size+1) o)∧Hid (∀o,o<5→Open wr W.heap.size o)∧Hid (∀i (hi:i<ws.length),i<j→numB ws[i]=true)∧Ext W wr) (fun wr=>lt.length-wr.iterPos (W.heap.size+1+1))
  case atStart=>exact⟨0,by omega,unhide IT,hide (by have:=unhide AA;exact this.ext ((Ext.refl w3).alloc _)),hide (fun o ho=>(unhide OA o ho).ext ((Ext.refl w3).alloc _)),hide (fun o ho=>(unhide OR o ho).ext ((Ext.refl w3).alloc _)),hide (fun i hi h=>by omega),xA.trans ((Ext.refl w3).alloc _)⟩
  case round=>
   obtain⟨j,hj,hit,haa,hoa,hor,hnb,hbl⟩:=hrel;by_cases hjl:j<lt.length
   ·have hjw:j<ws.length:=by have:=unhide HLEN;omega
    obtain rfl:=unhide HAD (by omega);have hnx:=fun ty=>next_let (unhide hit) hjl (unhide LA) ty
    have IT2:=hide (Lib.iterAt_heap wr (W.heap.size+1+1) ⟨lt.toArray⟩ j (j+1) (unhide hit));have XB:=hide (show Ext W (wr.iterAt (W.heap.size+1+1) ⟨lt.toArray⟩ (j+1)) from Lib.below_iterAt hbl (k:=W.heap.size+1+1) (Nat.le_succ_of_le (Nat.le_succ _)) ⟨lt.toArray⟩ (j+1));have BL:=hide (show ∀q,q≠W.heap.size+1+1→(wr.iterAt (W.heap.size+1+1) ⟨lt.toArray⟩ (j+1)).heap[q]?=wr.heap[q]? from fun q hq=>Lib.iterAt_other wr _ q _ _ hq);obtain⟨W1,hW1⟩:∃V,V=wr.iterAt (W.heap.size+1+1) ⟨lt.toArray⟩ (j+1):=⟨_,rfl⟩;rw[←hW1] at IT2 XB BL;have hnx2:∀ty,(Instr.next (.pointer (some ⟨W.heap.size+1+1,0,none⟩)) true ty).run Tryz.prog wr=.ok (.tuple #[.bool true,.int .i64 j,.int .i32 (lt[j].toNat:Int)]) W1:=fun ty=>hW1 ▸ hnx ty
    clear hnx hW1;have R1:=hide ((unhide RD).ext (unhide XB));have C1:=hide ((unhide HC).ext (unhide XB));have cA:∀o,W1.cell? ⟨W.heap.size+1,o,none⟩=wr.cell? ⟨W.heap.size+1,o,none⟩:=fun o=>World.cell?_of_block (a:=⟨W.heap.size+1,o,none⟩) (unhide BL (W.heap.size+1) (by omega))
    have OA1:=hide (fun o (ho:o<5)=>open_of_block (unhide hoa o ho) (unhide BL (W.heap.size+1) (by omega)));have OR1:=hide (fun o (ho:o<5)=>open_of_block (unhide hor o ho) (unhide BL W.heap.size (by omega)));have ew:=(unhide XB).keep (unhide CS j hjw);have WB:=hide (unhide WL ws[j] (List.getElem_mem hjw));have SP:=hide (actP_step k ws j (by rw[←unhide HLT];exact hjl) hjw);obtain⟨x,hx⟩:∃x,x=actP k ws j:=⟨_,rfl⟩;have hax:=unhide haa;rw[←hx] at hax SP;have a0:=(cA 0).trans hax.1;have a1:=(cA 1).trans hax.2.1;have a2:=(cA 2).trans hax.2.2.1;have a3:=(cA 3).trans hax.2.2.2.1;have a4:=(cA 4).trans hax.2.2.2.2;have LTJ:=hide (show(letL (k:Nat))[j]'(by rw[←unhide HLT];exact hjl)=lt[j] by simp only [unhide HLT]);obtain⟨wd,hwd⟩:∃y,y=ws[j]:=⟨_,rfl⟩;rw[←hwd] at ew WB SP;have HWD:=hide hwd;clear cA hax hx hwd;have hj0:(0:Int)≤(j:Int):=by omega
    have hj1:(j:Int)<(ws.length:Int):=by omega
    have hA1:W.heap.size+1<W1.heap.size:=cell_lt a0;cases qb:numB wd
    ·have NO:=hide (show actGood k ws=false from good_no_num hjw (by rw[←unhide HWD];exact qb));go_wp2_with fail;go_region_with (first | (go_at_call 78;refine(number_no b ln rest wd _ ((unhide R1).ext (Ext.refl W1).drew) ((unhide C1).ext (Ext.refl W1).drew).lib ((unhide C1).ext (Ext.refl W1).drew).tab.1 (unhide WB) qb).mono ?_;rintro e w4 ⟨rfl,x4⟩;refine(fun(_:wpAny Tryz.prog Region.Mode.any #[] (fun _ _ _=>True) 0 #[] ⟨#[],[]⟩ w4)=>⟨rfl,hide (.inr ⟨unhide NO,rfl⟩),(unhide XB).trans (Ext.trans (Ext.refl W1).drew x4)⟩) ?_))
     all_goals exact trivial
    ·go_wp2_with fail;go_region_with (first | (have _:=LAA;go_at_call 111;refine(withField_any x _ _ _).mono ?_;rintro e w5 ⟨rfl,x5⟩;obtain⟨⟨p0,t0⟩,g0⟩:=(unhide OA1 0 (by omega)).ext (Ext.trans x14 x5);obtain⟨⟨p1,t1⟩,g1⟩:=(unhide OA1 1 (by omega)).ext (Ext.trans x14 x5);obtain⟨⟨p2,t2⟩,g2⟩:=(unhide OA1 2 (by omega)).ext (Ext.trans x14 x5);obtain⟨⟨p3,t3⟩,g3⟩:=(unhide OA1 3 (by omega)).ext (Ext.trans x14 x5);obtain⟨⟨p4,t4⟩,g4⟩:=(unhide OA1 4 (by omega)).ext (Ext.trans x14 x5)) | (go_at_call 78;refine(number_yes b ln rest wd _ ((unhide R1).ext (Ext.refl W1).drew) ((unhide C1).ext (Ext.refl W1).drew).lib ((unhide C1).ext (Ext.refl W1).drew).tab.1 (unhide WB) qb).mono ?_;rintro e w4 ⟨rfl,x4⟩;have LAA:=True.intro;have x14:=Ext.trans (Ext.refl W1).drew x4;have b0:=x14.keep a0;have b1:=x14.keep a1;have b2:=x14.keep a2;have b3:=x14.keep a3;have b4:=x14.keep a4))
     all_goals
      have x15:=Ext.trans x14 x5;have S5:=hide (set5_at (x.put (lt[j].toNat:Int) (numV wd)) (fun o ho=>(unhide OA1 o ho).ext x15));have X6:=hide (set5_ext (b:=W.heap.size+1) (x.put (lt[j].toNat:Int) (numV wd)) ((unhide XB).trans x15) (by omega));have I6:=hide (show(set5 w5 (W.heap.size+1) (x.put (lt[j].toNat:Int) (numV wd))).heap[W.heap.size+1+1]?=some (.stringIter ⟨lt.toArray⟩ (j+1)) from(set5_block _ _ _ _ (by omega)).trans ((x15.block _ (by rcases Array.getElem?_eq_some_iff.1 (unhide IT2) with⟨h,_⟩;exact h)).trans (unhide IT2)));have O6:=hide (fun o (ho:o<5)=>open_of_block (W':=set5 w5 (W.heap.size+1) (x.put (lt[j].toNat:Int) (numV wd))) ((unhide OR1 o ho).ext x15) (set5_block _ _ _ _ (by omega)))
      have N6:=hide (show ∀i (hi:i<ws.length),i<j+1→numB ws[i]=true from fun i hi h=>by
       by_cases e:i=j
       ·subst e;rw[←unhide HWD];exact qb
       ·exact unhide hnb i hi (by omega))
      have SP2:=hide (show actP k ws (j+1)=x.put (lt[j].toNat:Int) (numV wd) by rw[unhide SP,unhide LTJ]);go_wp2_with fail;go_roundw
      case rel=>exact⟨j+1,by omega,unhide I6,hide (by rw[unhide SP2];exact(unhide S5).1),hide (unhide S5).2,unhide O6,unhide N6,unhide X6⟩
      case measure=>
       have i6:=unhide I6;unfold set5 at i6;simp only [World.iterPos,i6,unhide hit];omega
   ·have hnx:=fun ty=>next_end (unhide hit) hjl ty
    have e:j=lt.length:=by omega
    have AE:=hide (show actP k ws j=actOf k ws by rw[e,unhide HLT];exact actP_end k ws (by rw[←unhide HLT];exact unhide HLEN))
    have ALL:=hide (show ∀x∈ws,numB x=true from fun x hx=>by
     obtain⟨i,hi,rfl⟩:=List.getElem_of_mem hx;exact unhide hnb i hi (by have:=unhide HLEN;omega))
    have GL:=hide (good_last (k:=k) (by rw[←unhide HLT];exact unhide HLEN) (unhide ALL));have hax:=unhide haa;rw[unhide AE] at hax;obtain⟨x,hx⟩:∃x,x=actOf k ws:=⟨_,rfl⟩;rw[←hx] at hax GL;have HX:=hide hx;obtain⟨a0,a1,a2,a3,a4⟩:=hax;simp only [Nat.zero_add] at a1 a2 a3 a4;have RR:=hide ((unhide RD).ext hbl);clear e hx;cases q5:okA x
    ·have QO:=hide (fun V=>implActOk_r x false q5 V);have NO:=hide (show actGood k ws=false by rw[unhide GL];exact q5);go_wp2_with fail;refine(unhide QO _).mono ?_;rintro e w4 ⟨rfl,x4⟩;go_wp2_with fail;refine(must_no b ln rest w4 ((unhide RR).ext x4)).mono ?_;rintro e w6 ⟨rfl,hw6⟩;subst hw6;exact⟨rfl,hide (.inr ⟨unhide NO,rfl⟩),hbl.trans x4⟩
    ·have QO:=hide (fun V=>implActOk_r x true q5 V);have YS:=hide (show actGood k ws=true by rw[unhide GL];exact q5);go_wp2_with fail;refine(unhide QO _).mono ?_;rintro e w4 ⟨rfl,x4⟩;have b0:=x4.keep a0;have b1:=x4.keep a1;have b2:=x4.keep a2;have b3:=x4.keep a3;have b4:=x4.keep a4;obtain⟨⟨o0,r0⟩,f0⟩:=(unhide hor 0 (by omega)).ext x4;obtain⟨⟨o1,r1⟩,f1⟩:=(unhide hor 1 (by omega)).ext x4;obtain⟨⟨o2,r2⟩,f2⟩:=(unhide hor 2 (by omega)).ext x4;obtain⟨⟨o3,r3⟩,f3⟩:=(unhide hor 3 (by omega)).ext x4;obtain⟨⟨o4,r4⟩,f4⟩:=(unhide hor 4 (by omega)).ext x4;go_wp2_with fail;refine(must_yes b w4).mono ?_;rintro e w6 ⟨rfl,hw6⟩;subst hw6;go_wp2_with fail;refine bodyPost_ret (v:=x.v) (by simp [results,Tryz.results79,go_sem,r0,r1,r2,r3,r4]) rfl ?_;exact⟨hide (.inl ⟨unhide YS,by rw[←unhide HX]⟩),ext5 (hbl.trans x4) _ _ _ _ _⟩
def slen:Option Value→Nat
 | some (.string s)=>s.size
 | _=>0
theorem only_grown{S:Nat→Prop}{a W w5:World}{v:Value}{base:Nat}{t:TypeId}{c n:Nat}{xs:List Value}(oa:Only S a W)(hown:W.ownsRow base t c v n xs)(hb:a.heap.size≤base)(hg:W.grownBy w5 v.ownBlock):Only S a w5:=by
 have h2:Only (fun q=>S q∨base≤q) W w5:=⟨hg.os,hg.tape,hg.output,hg.size,fun k hk hs=>hg.block k hk (fun e=>hs (.inr (hown.lt k e.symm).1))⟩;have h3:=(oa.mono (T:=fun q=>S q∨base≤q) (fun k h=>.inl h)).trans h2
 exact⟨h3.os,h3.tape,h3.output,h3.size,fun k hk hs=>h3.block k hk (fun h=>by
  rcases h with h | h
  ·exact hs h
  ·omega)⟩
def ActsEnd(R:Rd)(room:Int)(B:Nat)(e:Ending)(w':World):Prop:=(∃v acc,R=.good room acc∧e=.returned v∧w'.ownsRow B 43 5 v acc.length (acc.flatMap fA))∨(∃n,R=.bad n∧e=faultP n)
theorem acts_any(w0 W:World)(b:Nat)(room:Int)(rest0:List UInt8)(hcx:Cx w0 W b)(h:RdAt W b rest0 1)(hl:rest0.length≤20000):
  Calls Tryz.prog 43 #[.pointer (some ⟨b,0,none⟩)] W fun e w'=>Hid (ActsEnd (rdActs room rest0.length 1 [] rest0) room W.heap.size e w')∧Only (fun q=>q=b) W w':=by
 obtain⟨i0,hi0,hz0,hz1,hz2⟩:=info_parts infoActs;have HC:=hide hcx;have RD:=hide h;have hbW:b<W.heap.size:=cell_lt h.1;obtain⟨R,hR⟩:∃R,R=rdActs room rest0.length 1 [] rest0:=⟨_,rfl⟩;rw[←hR];have HR:=hide hR;clear hR hcx h;go_enter Tryz.func43,Tryz.ntmps43;go_wp2_with fail
 go_step3
 go_wp2_with fail
 go_step3
 go_wp2_with fail;go_loopw [3] (fun v wr=>∃(n fuel:Nat) (acc:List Ak) (rest:List UInt8),Hid (rest.length≤fuel∧rdActs room fuel n acc rest=R)∧Hid (RdAt wr b rest n)∧Hid (wr.ownsRow W.heap.size 43 5 v acc.length (acc.flatMap fA))∧1≤n∧rest.length+n≤20001∧acc.length≤1000∧Only (fun q=>q=b) W wr) (fun _ wr=>slen (wr.cell? ⟨b,0,none⟩))
 case atStart=>exact⟨1,rest0.length,[],rest0,hide ⟨Nat.le_refl _,(unhide HR).symm⟩,unhide RD,World.ownsRow_nil _ _ _ _,Nat.le_refl _,by omega,by simp,Only.refl _ _⟩
 case round=>
  obtain⟨n,fuel,acc,rest,hfr,hrd,hown,hn1,hlen,hal,hon⟩:=hrel;obtain⟨s0,s1,s2,s3⟩:=unhide hrd;have CX:=hide ((unhide HC).on hon)
  obtain⟨ad,cap,hv⟩:∃ad cap,u3=.slice ad acc.length cap:=by
   rcases (unhide hown).2 with⟨h1,h2⟩ | ⟨g,cap,_,h1,_⟩
   ·exact⟨none,0,by rw[h1,h2]⟩
   ·exact⟨_,_,h1⟩
  subst hv;by_cases he:rest=[]
  ·subst he;have E:=hide (show R=.good room acc by rw[←(unhide hfr).2,rdActs_end]);go_wp2_with fail
   (try rw[Exit.noGoto_ret])
   go_ret;exact⟨hide (.inl ⟨_,acc,unhide E,rfl,unhide hown⟩),hon⟩
  ·have q1:(rest == [])=false:=by simpa using he
   have hpos:=List.length_pos_iff.2 he;cases qc:cutN rest with
   | none=>
    have QW:=hide (words_none b n rest wr (unhide hrd) (unhide CX).far (unhide CX).lib (by omega) (by omega) qc);have E:=hide (show R=.bad (n+1) by rw[←(unhide hfr).2];exact rdActs_cut (unhide hfr).1 he qc);go_wp2_with fail;refine(unhide QW).mono ?_;rintro e w2 ⟨he2,o2⟩;have e2:=unhide he2;subst e2;exact⟨rfl,hide (.inr ⟨n+1,unhide E,rfl⟩),hon.trans o2⟩
   | some lr=>
    obtain⟨line,rest'⟩:=lr;have hcl:=cutN_len qc;have QW:=hide (words_some b n rest line rest' wr (unhide hrd) (unhide CX).far (unhide CX).lib (by omega) (by omega) qc);have QC:=hide qc;clear qc;go_wp2_with fail;refine(unhide QW).mono ?_;rintro e w2 ⟨v,he2,hwo,hr2,o2⟩;have e2:=unhide he2;clear he2;subst e2;have C2:=hide ((unhide CX).on o2);have R2:=hide hr2;have ON2:=hide (hon.trans o2);have OW2:=hide (ownsRow_of_block (unhide hown) (fun q hq=>o2.block q ((unhide hown).lt q hq).2 (fun e=>by have:=((unhide hown).lt q hq).1;omega)))
    obtain⟨wd,ws,hw⟩:∃w0 ws,wordsL line=w0::ws:=by
     cases q:wordsL line with
     | nil=>exact absurd q (words_ne line)
     | cons a b=>exact⟨a,b,rfl⟩
    have WL:=hide (fun x (hx:x∈ws)=>word_le (l:=line) x (by rw[hw];exact List.mem_cons_of_mem _ hx));have HW:=hide hw;have LN:=hide (show(wordsL line).length=ws.length+1 by rw[hw];rfl)
    have SH:=hide (show ws.length≤20000 by
     have:=words_len line;rw[hw,List.length_cons] at this;omega)
    obtain⟨adw,capw,hvw,hxw⟩:=own_strs (unhide hwo);subst hvw
    have C0:=hide (show ∃g,adw=some ⟨g,0,none⟩∧(w2.cell? ⟨g,0,none⟩=some (.string (sB wd))∧∀i (hi:i<ws.length),w2.cell? ⟨g,1+i,none⟩=some (.string (sB ws[i]))) by
     obtain⟨g,hg,c0⟩:=hxw 0 (by rw[hw];simp);refine⟨g,hg,by simpa [hw] using c0,fun i hi=>?_⟩;obtain⟨g1,hg1,c1⟩:=hxw (i+1) (by rw[hw];simp;omega);rw[hg] at hg1;cases hg1;rw[Nat.add_comm 1 i]
     simpa [hw] using c1)
    have CAP:=hide (show ws.length+1≤capw by
     rcases (unhide hwo).2 with⟨h1,h2⟩ | ⟨g,cap,cur,h1,_,_,h3,_⟩
     ·rw[hw] at h2;simp at h2
     ·injection h1 with _ _ h4
      rw[h4,←unhide LN];exact h3)
    obtain⟨g,rfl,c0,cs⟩:=unhide C0;have CS:=hide cs;rw[unhide LN];have capw1:=unhide CAP;clear hxw hwo hw C0 cs QW LN hr2 s0 s1 s2 s3;by_cases h1000:acc.length<1000;rotate_left
    ·have E:=hide (show R=.bad (n+1) by rw[←(unhide hfr).2];exact rdActs_many (unhide hfr).1 (unhide QC) h1000);have hI:((acc.length:Int)<1000)=False:=by simp;omega
     go_wp2_with fail;refine(must_no b (n+1) rest' w2 (unhide R2)).mono ?_;rintro e w3 ⟨he3,hw3⟩;subst hw3;unfold faultP at he3;subst he3;go_wp2_with fail;exact⟨rfl,hide (.inr ⟨n+1,unhide E,rfl⟩),unhide ON2⟩
    ·have hI:(acc.length:Int)<1000:=by omega
     go_wp2_with fail;refine(must_yes b w2).mono ?_;rintro e w3 ⟨rfl,hw3⟩;subst hw3;go_wp2_with fail;obtain⟨WO,hWO⟩:∃V,V=wr:=⟨_,rfl⟩;subst hWO;go_loopw [3,5] (fun va o wr=>∃k:Nat,va=.slice ad acc.length cap∧1≤k∧k≤25∧o=.int .i64 k∧Hid (∀j:Nat,1≤j→j<k→nameL (j:Nat)≠wd)∧Ext w3 wr) (fun _ o _=>25-(intOf o).toNat)
     case atStart=>exact⟨1,rfl,by omega,by omega,rfl,hide (fun j h1 h2=>by omega),Ext.refl _⟩
     case round=>
      obtain⟨k,rfl,hk1,hk2,rfl,hno,hbl⟩:=hrel;have R3:=hide ((unhide R2).ext hbl);by_cases hlt:k≤24;rotate_left
      ·have E:=hide (show R=.bad (n+1) by
        rw[←(unhide hfr).2];exact rdActs_no (unhide hfr).1 (unhide QC) (actO_none (unhide HW) (fun j h1 h2=>unhide hno j h1 (by omega))))
       obtain⟨s0,s1,s2,s3⟩:=unhide R3;go_wp2_with fail;exact⟨rfl,hide (.inr ⟨n+1,unhide E,rfl⟩),(unhide ON2).trans (Only.of_ext hbl)⟩
      ·have e0:=hbl.keep c0;have ff:=((unhide C2).tab.ext hbl).2 k (by omega);have f0:=ff.1;have hk0:(0:Int)≤(k:Int):=by omega
       have hk3:(k:Int)<25:=by omega
       have hk4:(k:Int)≤24:=by omega
       obtain⟨nm,hnm⟩:∃s,s=nameL (k:Nat):=⟨_,rfl⟩;rw[←hnm] at f0;have HNM:=hide hnm;clear hnm ff;cases q:(wd == nm)
       ·have NX:=hide (show ∀j:Nat,1≤j→j<k+1→nameL (j:Nat)≠wd from fun j h1 h2=>by
         by_cases e:j=k
         ·subst e;rw[←unhide HNM];intro e2;rw[e2] at q;simp at q
         ·exact unhide hno j h1 (by omega))
        go_wp2_with fail
        go_region
        go_wp2_with fail;exact⟨⟨k+1,rfl,by omega,by omega,by go_num,unhide NX,Ext.drew hbl⟩,by simp [intOf];omega⟩
       ·have AO:=hide (actO_op (unhide HW) hk1 hlt (by rw[←unhide HNM];exact(beq_iff_eq.1 q).symm));have QA:=hide (fun ad had cp=>act_any w0 wr.drew b (n+1) k g cp ad rest' ws had ((unhide C2).ext (Ext.drew hbl)) ((unhide R3).ext (Ext.drew (Ext.refl wr))) hk1 hlt (fun x hx=>by have:=unhide WL x hx;omega) (fun i hi=>(Ext.drew hbl).keep (unhide CS i hi)));have sh:=unhide SH;go_wp2_with fail
        go_region
        go_wp2_with fail
        all_goals
         refine(unhide QA _ (fun h=>by first | rfl | omega) _).mono ?_;rintro e w4 ⟨hans,x4⟩;have X4:=hide (show Ext w3 w4 from(Ext.drew hbl).trans x4);rcases unhide hans with⟨hg,he4⟩ | ⟨hg,he4⟩
         ·subst he4;have AY:=hide (show actO line=some (actOf k ws) by rw[unhide AO,hg];rfl);obtain⟨y,hy⟩:∃y,y=actOf k ws:=⟨_,rfl⟩;rw[←hy] at AY ⊢;clear hy hans
          have NX:=hide (show rest'.length≤fuel-1∧rdActs room (fuel-1) (n+1) (acc++[y]) rest'=R by
           have h1:=(unhide hfr).1;exact⟨by omega,by rw[←(unhide hfr).2,rdActs_step h1 (unhide QC) h1000 (unhide AY)]⟩)
          have O4:=hide (ownsRow_of_block (unhide OW2) (fun q hq=>(unhide X4).block q ((unhide OW2).lt q hq).2));have hbs:=(unhide ON2).size;have hxs:=(unhide X4).size;clear x4;go_wp2_with (at_builtin;refine wpList_append_lies _ rfl _ _ 23 rfl W.heap.size 43 i0 (.agg #[iv 0,iv 0,iv 0,iv 0,iv 0]) 5 40 Tryz.underlying23 hi0 hz0 hz1 hz2 rfl (by decide) _ acc.length (acc.flatMap fA) rfl ((unhide O4).alloc _) _ 1 1 (fA y) rfl rfl ?c1 ?c2 (by decide) ?c3 ?c4 ?c5 _ rfl ?_)
          case c1=>
           intro q u hk
           match q,hk with
           | 0,hk=>simp [fA] at hk;subst hk;simp [Addr.add,go_sem]
           | 1,hk=>simp [fA] at hk;subst hk;simp [Addr.add,go_sem]
           | 2,hk=>simp [fA] at hk;subst hk;simp [Addr.add,go_sem]
           | 3,hk=>simp [fA] at hk;subst hk;simp [Addr.add,go_sem]
           | 4,hk=>simp [fA] at hk;subst hk;simp [Addr.add,go_sem]
           | q+5,hk=>simp [fA] at hk
          case c2=>intro u hu;simp [fA] at hu;rcases hu with e | e | e | e | e <;> subst e <;> rfl
          case c3=>unfold maxLen;omega
          case c4=>omega
          case c5=>simp;omega
          intro gg cap' w5 hown5 hgrow hat hglt
          have R5:=hide (show w5.ownsRow W.heap.size 43 5 (.slice (some ⟨gg,0,none⟩) (acc.length+1) cap') (acc++[y]).length ((acc++[y]).flatMap fA) by
           rw[List.flatMap_append]
           simpa using hown5)
          have ON5:=hide (only_grown (((unhide ON2).trans (Only.of_ext (unhide X4))).trans (Only.of_ext ((Ext.refl w4).alloc _))) ((unhide O4).alloc _) (Nat.le_refl _) hgrow);have RD5:=hide (((unhide R2).ext (unhide X4)).of_block (W':=w5) ((hgrow.block b (by simp;omega) (fun e=>by have:=(((unhide O4).alloc (.cells #[iv y.op,iv y.a,iv y.b,iv y.c,iv y.n] 43)).lt b e.symm).1;omega)).trans (Lib.alloc_old _ _ b (by omega))))
          have M5:=hide (show slen (w5.cell? ⟨b,0,none⟩)<slen (WO.cell? ⟨b,0,none⟩) by
           rw[(unhide RD5).1,(unhide hrd).1];show(sB rest').size<(sB rest).size;simp only [ByteArray.size,List.size_toArray];omega)
          clear hown5 hgrow hat;go_wp2_with fail;go_roundw
          case rel=>exact⟨n+1,fuel-1,acc++[y],rest',unhide NX,unhide RD5,unhide R5,by omega,by omega,by simp;omega,unhide ON5⟩
          case measure=>exact unhide M5
         ·have E:=hide (show R=.bad (n+1) by
           rw[←(unhide hfr).2];exact rdActs_no (unhide hfr).1 (unhide QC) (act_refuse (unhide AO) hg))
          unfold faultP at he4;subst he4;go_wp2_with fail;exact⟨rfl,hide (.inr ⟨n+1,unhide E,rfl⟩),(unhide ON2).trans (Only.of_ext (unhide X4))⟩
theorem assert_yes(x:Value)(W:World):(Instr.typeAssert (.iface 83 x) 20 83 true).run Tryz.prog W=.ok (.tuple #[x,.bool true]) W:=by kernel_rfl
theorem assert_no(W:World):(Instr.typeAssert .nilIface 20 83 true).run Tryz.prog W=.ok (.tuple #[.agg #[iv 0],.bool false]) W:=by kernel_rfl
theorem catch_panicking(p:Nat)(ln:Nat)(older:List PanicEntry)(w:World)(h:∀j,j<4→Open w p j):
  CallsD Tryz.prog 41 #[.pointer (some ⟨p,0,none⟩)] (.panicking ({ v:=.iface 83 (.agg #[iv ln]),recovered:=false } :: older)) w fun e u' w'=>
   e=.returned (.tuple #[])∧u'=.panicking ({ v:=.iface 83 (.agg #[iv ln]),recovered:=true } :: older)∧Only (fun q=>q=p) w w'∧w'.cell? ⟨p,0,none⟩=some (.bool false)∧w'.cell? ⟨p,1,none⟩=some (iv ln)∧w'.cell? ⟨p,2,none⟩=some (iv 0)∧w'.cell? ⟨p,3,none⟩=some (.slice none 0 0):=by
 refine callsD_of_wpS Tryz.func41 rfl fun c₀ cs hu=>?_
 apply wpS_seq;apply wpS_region;have AS:=assert_yes (.agg #[iv ln]);simp [wpOpsS,go_sem,recoverD,hu,AS,Tryz.ntmps41,Exit.thenS];have hp:p<w.heap.size:=by obtain⟨⟨o0,r0⟩,_⟩:=h 0 (by omega);exact cell_lt r0
 obtain⟨WB,hWB⟩:∃V,V=w.alloc (.cells #[.int .i64 (ln:Int)] 83):=⟨_,rfl⟩;have xB:Ext w WB:=hWB ▸ (Ext.refl w).alloc _;have cl:WB.cell? ⟨w.heap.size,0,none⟩=some (iv ln):=by rw[hWB];simp [go_sem]
 rw[←hWB];clear hWB;obtain⟨⟨o0,r0⟩,f0⟩:=(h 0 (by omega)).ext xB;obtain⟨⟨o1,r1⟩,f1⟩:=(h 1 (by omega)).ext xB;obtain⟨⟨o2,r2⟩,f2⟩:=(h 2 (by omega)).ext xB;obtain⟨⟨o3,r3⟩,f3⟩:=(h 3 (by omega)).ext xB;apply wpS_seq;apply wpS_region;simp [wpOpsS,go_sem,Exit.thenS];refine wpS_cond (t:=true) (by simp [Act.eval,Array.replicate]) ?_;simp only [if_true];apply wpS_region;simp [wpOpsS,go_sem,cl,r0,r1,r2,r3,f0,f1,f2,f3,bodyPostS,results,Tryz.results41];exact((((Only.of_ext xB).setCell (S:=fun q=>q=p) (p:=⟨p,0,none⟩) rfl _).setCell (p:=⟨p,1,none⟩) rfl _).setCell (p:=⟨p,2,none⟩) rfl _).setCell (p:=⟨p,3,none⟩) rfl _
theorem catch_idle(p:Nat)(w:World):
  CallsD Tryz.prog 41 #[.pointer (some ⟨p,0,none⟩)] .returning w fun e u' w'=>e=.returned (.tuple #[])∧u'=.returning∧Ext w w':=by
 refine callsD_of_wpS Tryz.func41 rfl fun c₀ cs hu=>?_
 apply wpS_seq;apply wpS_region;have AS:=assert_no;simp [wpOpsS,go_sem,recoverD,hu,AS,Tryz.ntmps41,Exit.thenS];apply wpS_seq;apply wpS_region;simp [wpOpsS,go_sem,Exit.thenS];refine wpS_cond (t:=false) (by simp [Act.eval,Array.replicate]) ?_;simp only [Bool.false_eq_true,if_false];refine wpS_of_wp (wp_skip ?_);have xx:Ext w (w.alloc (.cells #[.int .i64 0] 83)):=(Ext.refl w).alloc _;cases c₀
 simp_all [bodyPostS,results,Tryz.results41]
theorem only_out{b p:Nat}{W w2 w3:World}(hp:W.heap.size≤p)(h1:Only (fun q=>q=b) W w2)(h2:Only (fun q=>q=p) w2 w3):Only (fun q=>q=b) W w3:=by
 have h3:=(h1.mono (T:=fun q=>q=b∨q=p) (fun k h=>.inl h)).trans (h2.mono (fun k h=>.inr h))
 exact⟨h3.os,h3.tape,h3.output,h3.size,fun k hk hs=>h3.block k hk (fun h=>by
  rcases h with h | h
  ·exact hs h
  ·omega)⟩
theorem room_bad{tx:List UInt8}(hl:tx.length≤20000)(h:∀line rest',cutN tx=some (line,rest')→roomO line=none):rdText tx=.bad 1:=by
 unfold rdText;rw[if_neg (by omega)];cases q:cutN tx with
 | none=>rfl
 | some lr=>
  obtain⟨line,rest'⟩:=lr;simp only [h line rest' q]
theorem room_good{tx line rest':List UInt8}{r:Int}(hl:tx.length≤20000)(h:cutN tx=some (line,rest'))(hr:roomO line=some r):rdText tx=rdActs r rest'.length 1 [] rest':=by
 unfold rdText;rw[if_neg (by omega),h];simp only [hr]
theorem read_any(w0 W:World)(b:Nat)(tx:List UInt8)(hcx:Cx w0 W b)(h:RdAt W b tx 0)(hl:tx.length≤20000):
  Calls Tryz.prog 23 #[.pointer (some ⟨b,0,none⟩)] W fun e w'=>∃v,Hid (e=.returned ((rdText tx).v v))∧Hid (w'.ownsRow W.heap.size 43 5 v (rdText tx).acts.length ((rdText tx).acts.flatMap fA))∧Only (fun q=>q=b) W w':=by
 have hmf:∀(fn:Fn) (first cap:Array Value) (w:World),(Instr.makeFunc fn first cap).run Tryz.prog w=.ok (.func fn first cap) w:=fun _ _ _ _=>rfl
 obtain⟨WR,hWR⟩:∃V,V=W.alloc (.cells #[.bool false,.int .i64 0,.int .i64 0,.slice none 0 0] 28):=⟨_,rfl⟩;have xR:Ext W WR:=hWR ▸ (Ext.refl W).alloc _
 have OP:=hide (show ∀j,j<4→Open WR W.heap.size j from fun j hj=>by
  rw[hWR]
  match j,hj with
  | 0,_=>exact⟨⟨.bool false,by simp [go_sem]⟩,by simp [go_sem]⟩
  | 1,_=>exact⟨⟨.int .i64 0,by simp [go_sem]⟩,by simp [go_sem]⟩
  | 2,_=>exact⟨⟨.int .i64 0,by simp [go_sem]⟩,by simp [go_sem]⟩
  | 3,_=>exact⟨⟨.slice none 0 0,by simp [go_sem]⟩,by simp [go_sem]⟩)
 have hbW:b<W.heap.size:=cell_lt h.1;have CR:=hide (hcx.ext xR);have QR:=hide (room_any w0 WR b tx (unhide CR) (h.ext xR) hl);have sR:WR.heap.size=W.heap.size+1:=by rw[hWR];simp
 clear hcx h
 go_enter_defers Tryz.func23,Tryz.ntmps23
 go_wp2_with fail;rw[←hWR];clear hWR;refine(unhide QR).mono ?_;rintro e w2 ⟨hre,o2⟩;have OP2:=hide (fun j (hj:j<4)=>open_of_block (unhide OP j hj) (o2.block W.heap.size (by omega) (by omega)));have OW2:=hide (show Only (fun q=>q=b) W w2 from(Only.of_ext xR).trans o2);rcases unhide hre with⟨line,rest',r,hc,hro,he,hrd⟩ | ⟨hno,he⟩
 rotate_left
 ·have E:=hide (room_bad hl hno);unfold faultP at he;subst he;go_wp2_with fail;refine leaves_cons (f:=41) (args:=#[.pointer (some ⟨W.heap.size,0,none⟩)]) (by simp) (by simp [go_sem]) ?_;refine(catch_panicking W.heap.size 1 [] w2 (unhide OP2)).mono ?_;rintro e u' w3 ⟨rfl,rfl,o3,c0,c1,c2,c3⟩;have O3:=hide (only_out (Nat.le_refl _) (unhide OW2) o3);simp [Leaves,settle,results,Tryz.results23,go_sem,c0,c1,c2,c3];exact⟨.slice none 0 0,hide (by rw[unhide E];rfl),hide (by rw[unhide E];exact World.ownsRow_nil _ _ _ _),unhide O3⟩
 ·subst he;have E:=hide (room_good hl hc hro);have QA:=hide (acts_any w0 w2 b r rest' ((unhide CR).on o2) hrd (by have:=cutN_len hc;omega));obtain⟨R,hR⟩:∃R,R=rdActs r rest'.length 1 [] rest':=⟨_,rfl⟩;rw[←hR] at E QA;clear hR hre;go_wp2_with fail;refine(unhide QA).mono ?_;rintro e w3 ⟨hae,o3⟩;have hs2:=o2.size;have OP3:=hide (fun j (hj:j<4)=>open_of_block (unhide OP2 j hj) (o3.block W.heap.size (by omega) (by omega)));have OW3:=hide (show Only (fun q=>q=b) W w3 from(unhide OW2).trans o3);rcases unhide hae with⟨v,acc,hg,he,hown⟩ | ⟨n,hbad,he⟩
  ·subst he;subst hg;have OWN:=hide hown
   obtain⟨ad,cap,hv⟩:∃ad cap,v=.slice ad acc.length cap:=by
    rcases hown.2 with⟨h1,h2⟩ | ⟨g,cap,_,h1,_⟩
    ·exact⟨none,0,by rw[h1,h2]⟩
    ·exact⟨_,_,h1⟩
   subst hv;obtain⟨⟨p0,r0⟩,f0⟩:=unhide OP3 0 (by omega);obtain⟨⟨p1,r1⟩,f1⟩:=unhide OP3 1 (by omega);obtain⟨⟨p2,r2⟩,f2⟩:=unhide OP3 2 (by omega);obtain⟨⟨p3,r3⟩,f3⟩:=unhide OP3 3 (by omega);clear hown hae;go_wp2_with fail;have ON:=hide (((((unhide OW3).mono (T:=fun q=>q=b∨q=W.heap.size) (fun k h=>.inl h)).setCell (p:=⟨W.heap.size,0,none⟩) (.inr rfl) (.bool true)).setCell (p:=⟨W.heap.size,1,none⟩) (.inr rfl) (.int .i64 0)).setCell (p:=⟨W.heap.size,2,none⟩) (.inr rfl) (.int .i64 r) |>.setCell (p:=⟨W.heap.size,3,none⟩) (.inr rfl) (.slice ad acc.length cap));obtain⟨w4,hw4⟩:∃V,V=(((w3.setCell ⟨W.heap.size,0,none⟩ (.bool true)).setCell ⟨W.heap.size,1,none⟩ (.int .i64 0)).setCell ⟨W.heap.size,2,none⟩ (.int .i64 r)).setCell ⟨W.heap.size,3,none⟩ (.slice ad acc.length cap):=⟨_,rfl⟩;have c0:w4.cell? ⟨W.heap.size,0,none⟩=some (.bool true):=by rw[hw4];simp [go_sem,r0]
   have c1:w4.cell? ⟨W.heap.size,1,none⟩=some (.int .i64 0):=by rw[hw4];simp [go_sem,r1]
   have c2:w4.cell? ⟨W.heap.size,2,none⟩=some (.int .i64 r):=by rw[hw4];simp [go_sem,r2]
   have c3:w4.cell? ⟨W.heap.size,3,none⟩=some (.slice ad acc.length cap):=by rw[hw4];simp [go_sem,r3]
   have OW4:=hide (show w4.ownsRow W.heap.size 43 5 (.slice ad acc.length cap) acc.length (acc.flatMap fA) by
    have hlt:W.heap.size<w2.heap.size:=by omega
    rw[hw4];exact own_mono (ownsRow_setCell_below (ownsRow_setCell_below (ownsRow_setCell_below (ownsRow_setCell_below (unhide OWN) hlt _) hlt _) hlt _) hlt _) (Nat.le_of_lt hlt))
   rw[←hw4] at ON ⊢;clear hw4;show Leaves _ _ _ _ _ _ _;refine leaves_cons (f:=41) (args:=#[.pointer (some ⟨W.heap.size,0,none⟩)]) (by simp) (by simp [go_sem]) ?_;refine(catch_idle W.heap.size w4).mono ?_;rintro e u' w5 ⟨rfl,rfl,x5⟩;have d0:=x5.keep c0;have d1:=x5.keep c1;have d2:=x5.keep c2;have d3:=x5.keep c3
   have O5:=hide (show Only (fun q=>q=b) W w5 from by
    have h3:=(unhide ON).trans (Only.of_ext x5)
    exact⟨h3.os,h3.tape,h3.output,h3.size,fun k hk hs=>h3.block k hk (fun h=>by
     rcases h with h | h
     ·exact hs h
     ·omega)⟩)
   have OW5:=hide (ownsRow_of_block (unhide OW4) (fun q hq=>x5.block q ((unhide OW4).lt q hq).2));simp [Leaves,settle,results,Tryz.results23,go_sem,d0,d1,d2,d3];exact⟨_,hide (by rw[unhide E];rfl),hide (by rw[unhide E];exact unhide OW5),unhide O5⟩
  ·unfold faultP at he;subst he;subst hbad;go_wp2_with fail;refine leaves_cons (f:=41) (args:=#[.pointer (some ⟨W.heap.size,0,none⟩)]) (by simp) (by simp [go_sem]) ?_;refine(catch_panicking W.heap.size n [] w3 (unhide OP3)).mono ?_;rintro e u' w4 ⟨rfl,rfl,o4,c0,c1,c2,c3⟩;have O4:=hide (only_out (Nat.le_refl _) (unhide OW3) o4);simp [Leaves,settle,results,Tryz.results23,go_sem,c0,c1,c2,c3];exact⟨.slice none 0 0,hide (by rw[unhide E];rfl),hide (by rw[unhide E];exact World.ownsRow_nil _ _ _ _),unhide O4⟩
theorem rdActs_len(room:Int):∀(fuel n:Nat) (acc:List Ak) (rest:List UInt8),acc.length≤1000→(rdActs room fuel n acc rest).acts.length≤1000
 | 0,_,acc,_,h=>by simpa [rdActs,Rd.good] using h
 | fuel+1,n,acc,rest,h=>by
  unfold rdActs
  split
  ·simpa [Rd.good] using h
  ·split
   ·simp [Rd.bad]
   ·split
    ·split
     ·simp [Rd.bad]
     ·exact rdActs_len room fuel _ _ _ (by simp;omega)
    ·simp [Rd.bad]
theorem rdText_len(tx:List UInt8):(rdText tx).acts.length≤1000:=by
 unfold rdText
 split
 ·simp [Rd.bad]
 ·split
  ·simp [Rd.bad]
  ·split
   ·simp [Rd.bad]
   ·exact rdActs_len _ _ _ _ _ (by simp)
theorem implRead_any(w:World)(tx:List UInt8)(hl:tx.length≤1048576)(ht:Tab w)(hL:LibAt w):
  Calls Tryz.prog 7 #[.string (sB tx)] w fun e w'=>∃v,Hid (e=.returned ((rdText tx).v v))∧Hid (w'.ownsRow w.heap.size 43 5 v (rdText tx).acts.length ((rdText tx).acts.flatMap fA))∧Ext w w':=by
 by_cases h0:20000<tx.length
 ·have E:=hide (rd_long h0);go_enter Tryz.func7,Tryz.ntmps7;go_wp2_with fail;refine bodyPost_ret (v:=.agg #[.bool false,.int .i64 0,.int .i64 0,.slice none 0 0]) (by simp [results,Tryz.results7,go_sem]) rfl ?_;exact⟨.slice none 0 0,hide (by rw[unhide E];rfl),hide (by rw[unhide E];exact World.ownsRow_nil _ _ _ _),(Ext.refl w).alloc _⟩
 ·have hI:¬(20000:Int)<(tx.length:Int):=by omega
  obtain⟨WA,hWA⟩:∃V,V=w.alloc (.cells #[.bool false,.int .i64 0,.int .i64 0,.slice none 0 0] 28):=⟨_,rfl⟩;have xA:Ext w WA:=hWA ▸ (Ext.refl w).alloc _
  have OP:=hide (show ∀j,j<4→Open WA w.heap.size j from fun j hj=>by
   rw[hWA]
   match j,hj with
   | 0,_=>exact⟨⟨.bool false,by simp [go_sem]⟩,by simp [go_sem]⟩
   | 1,_=>exact⟨⟨.int .i64 0,by simp [go_sem]⟩,by simp [go_sem]⟩
   | 2,_=>exact⟨⟨.int .i64 0,by simp [go_sem]⟩,by simp [go_sem]⟩
   | 3,_=>exact⟨⟨.slice none 0 0,by simp [go_sem]⟩,by simp [go_sem]⟩)
  have sA:WA.heap.size=w.heap.size+1:=by rw[hWA];simp
  obtain⟨WB,hWB⟩:∃V,V=WA.alloc (.cells #[.string (sB tx),.int .i64 0] 53):=⟨_,rfl⟩;have xB:Ext WA WB:=hWB ▸ (Ext.refl WA).alloc _;have RB:=hide (show RdAt WB WA.heap.size tx 0 by rw[hWB];exact⟨by simp [go_sem],by simp [go_sem],by simp [go_sem],by simp [go_sem]⟩);have sB':WB.heap.size=w.heap.size+2:=by rw[hWB];simp;omega
  rw[sA] at RB;have Q:=hide (read_any w WB (w.heap.size+1) tx ⟨ht,hL,by omega,xA.trans xB⟩ (unhide RB) (by omega));clear ht hL;go_enter Tryz.func7,Tryz.ntmps7;go_wp2_with fail;rw[←hWA,←hWB];clear hWA hWB;refine(unhide Q).mono ?_;rintro e w2 ⟨v,he,hown,o2⟩;have e2:=unhide he;subst e2;have X2:=hide (show Ext w w2 from o2.ext (xA.trans xB) (fun k hk e=>by omega));have OP2:=fun j (hj:j<4)=>open_of_block (unhide OP j hj) ((o2.block w.heap.size (by omega) (by omega)).trans (xB.block w.heap.size (by omega)))
  obtain⟨⟨p0,r0⟩,f0⟩:=OP2 0 (by omega);obtain⟨⟨p1,r1⟩,f1⟩:=OP2 1 (by omega);obtain⟨⟨p2,r2⟩,f2⟩:=OP2 2 (by omega);obtain⟨⟨p3,r3⟩,f3⟩:=OP2 3 (by omega);have OWN:=hide (unhide hown)
  obtain⟨ad,cap,hv⟩:∃ad cap,v=.slice ad (rdText tx).acts.length cap:=by
   rcases (unhide hown).2 with⟨h1,h2⟩ | ⟨g,cap,_,h1,_⟩
   ·exact⟨none,0,by rw[h1,h2]⟩
   ·exact⟨_,_,h1⟩
  subst hv;obtain⟨R,hR⟩:∃R,R=rdText tx:=⟨_,rfl⟩;rw[←hR] at OWN ⊢;have HR:=hide hR;clear hown he Q OP2 hR;unfold Rd.v;go_wp2_with fail;refine bodyPost_ret (v:=.agg #[.bool R.ok,.int .i64 R.ln,.int .i64 R.rm,.slice ad R.acts.length cap]) (by simp [results,Tryz.results7,go_sem,r0,r1,r2,r3]) rfl ?_;have hlt:w.heap.size<WB.heap.size:=by omega
  exact⟨.slice ad R.acts.length cap,hide (by rw[←unhide HR];rfl),hide (by rw[←unhide HR];exact own_mono (ownsRow_setCell_below (ownsRow_setCell_below (ownsRow_setCell_below (ownsRow_setCell_below (unhide OWN) hlt _) hlt _) hlt _) hlt _) (Nat.le_of_lt hlt)),((((Only.of_ext (S:=fun q=>q=w.heap.size) (Ext.refl w2)).setCell (p:=⟨w.heap.size,0,none⟩) rfl _).setCell (p:=⟨w.heap.size,1,none⟩) rfl _).setCell (p:=⟨w.heap.size,2,none⟩) rfl _).setCell (p:=⟨w.heap.size,3,none⟩) rfl _ |>.ext (unhide X2) (fun k hk e=>by omega)⟩
end Go.Proofs.YtnegjhddmfiefaaGreatDoor
