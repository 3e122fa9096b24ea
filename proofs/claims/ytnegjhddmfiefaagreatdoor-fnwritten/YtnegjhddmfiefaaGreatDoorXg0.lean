import Derived.Test.YtnegjhddmfiefaaGreatDoorAf0
import Derived.Test.YtnegjhddmfiefaaGreatDoorShelw
import Derived.Laws.IdiomStrings
import Derived.Lib.AppendIntMem
import Derived.Lib.AppendStr
import Derived.Lib.ItoaLen
import Derived.Lib.ItoaNum
import Derived.Lib.OthersKept
import Derived.Lib.UnsafeStr
set_option maxRecDepth 100000
set_option maxHeartbeats 1000000
namespace Go.Proofs.YtnegjhddmfiefaaGreatDoor
open Go.RowKit
attribute [local go_sem ↓] Go.wp_at_zero Go.wp_at_succ
def dec0(m:Nat):List UInt8:=if m=0 then [] else Lib.decDigits m
theorem dec0_step(m:Nat)(h:m≠0):dec0 m=dec0 (m / 10)++[UInt8.ofNat (48+m % 10)]:=by
 unfold dec0;rw[if_neg h,Lib.decDigits];by_cases h1:m<10
 ·rw[dif_pos h1,if_pos (by omega),Nat.mod_eq_of_lt h1];rfl
 ·rw[dif_neg h1,if_neg (by omega)]
def bC(x:UInt8):List Value:=[.int .u8 (x.toNat:Int)]
def DecI(u m:Nat)(L:List UInt8):Prop:=L.length≤19∧m*10 ^ L.length≤u∧dec0 u=dec0 m++L.reverse
theorem DecI.start(u:Nat):DecI u u []:=⟨by simp,by simp,by simp⟩
theorem DecI.lt{u m:Nat}{L:List UInt8}(h:DecI u m L)(hm:m≠0)(hu:u≤9223372036854775808):L.length<19:=by
 apply Nat.lt_of_not_le;intro hl;have h1:10 ^ 19≤10 ^ L.length:=Nat.pow_le_pow_right (by omega) hl;have h2:1*10 ^ L.length≤m*10 ^ L.length:=Nat.mul_le_mul_right _ (by omega);have:=h.2.1;omega
theorem DecI.step{u m:Nat}{L:List UInt8}(h:DecI u m L)(hm:m≠0)(hu:u≤9223372036854775808):DecI u (m / 10) (L++[UInt8.ofNat (48+m % 10)]):=by
 refine⟨by have:=h.lt hm hu;simp;omega,?_,?_⟩
 ·have h1:=h.2.1;have h2:m / 10*10*10 ^ L.length≤m*10 ^ L.length:=Nat.mul_le_mul_right _ (by omega);rw[List.length_append,List.length_singleton,Nat.pow_succ,Nat.mul_comm (10 ^ L.length),←Nat.mul_assoc];omega
 ·rw[h.2.2,dec0_step m hm];simp
theorem DecI.done{u:Nat}{L:List UInt8}(h:DecI u 0 L):dec0 u=L.reverse:=by rw[h.2.2];rfl
theorem str_app(a b:List UInt8):(⟨a.toArray⟩:ByteArray)++⟨b.toArray⟩=⟨(a++b).toArray⟩:=by
 apply ByteArray.ext;simp
theorem drop_rev(L:List UInt8)(j:Nat)(hj:j<L.length):(L.drop j).reverse=(L.drop (j+1)).reverse++[L[j]]:=by
 rw[List.drop_eq_getElem_cons hj,List.reverse_cons]
theorem infoU8:(Tryz.prog.info? 5).map (fun i=>(i.zero,i.size,i.bytes))=some (some (.int .u8 0),1,1):=by kernel_rfl
theorem digit_u8(m:Nat):(48+(m:Int) % 10)=((UInt8.ofNat (48+m % 10)).toNat:Int):=by
 have:(UInt8.ofNat (48+m % 10)).toNat=48+m % 10:=by simp [UInt8.toNat_ofNat'];omega
 rw[this];omega
theorem own_bytes{w:World}{B:Nat}{v:Value}{L:List UInt8}(h:w.ownsRow B 5 1 v L.length (L.flatMap bC)):∃ad cap,v=.slice ad L.length cap∧∀i (hi:i<L.length),∃g,ad=some ⟨g,0,none⟩∧g<w.heap.size∧w.cell? ⟨g,i,none⟩=some (.int .u8 (L[i].toNat:Int)):=by
 obtain⟨ad,cap,e,_,hx⟩:=own_cells (f:=bC) (fun _=>rfl) h;refine⟨ad,cap,e,fun i hi=>?_⟩;obtain⟨g,ea,_,hg,hc⟩:=hx i hi;have:=hc 0 (by simp);simp [bC] at this;exact⟨g,ea,cell_lt this,this⟩
theorem conv1(w:World)(x:UInt8):(convert 22 9 (.slice (some ⟨w.heap.size,0,none⟩) 1 1)).run Tryz.prog (w.alloc (.cells #[.int .u8 (x.toNat:Int)] 5))=.ok (.string ⟨#[x]⟩) (w.alloc (.cells #[.int .u8 (x.toNat:Int)] 5)):=by
 have:=run_convert_bytes_back (P:=Tryz.prog) (w.alloc (.cells #[.int .u8 (x.toNat:Int)] 5)) 22 9 5 ⟨w.heap.size,0,none⟩ 1 [x] Tryz.underlying22 Tryz.underlying5 Tryz.underlying9 (fun j hj=>by
  have:j=0:=by simp at hj;omega
  subst this;simp [Addr.add,go_sem])
 simpa using this
theorem l7decimal_pos(u:Nat)(h0:u≠0)(h1:u≤9223372036854775807)(w:World):Calls Tryz.prog 20 #[.int .i64 (u:Int)] w fun e w'=>e=.returned (.string ⟨(dec0 u).toArray⟩)∧Ext w w':=by
 obtain⟨i0,hi0,hz0,hz1,hz2⟩:=info_parts infoU8;have q0:((u:Int) == 0)=false:=by simpa using h0
 have q1:¬(u:Int)<0:=by omega
 go_enter Tryz.func20,Tryz.ntmps20;go_wp2_with fail;go_loopw [0,4,5] (fun n v d wr=>∃(m:Nat) (L:List UInt8),n=.int .i64 (m:Int)∧m≤u∧Hid (DecI u m L)∧Hid (wr.ownsRow w.heap.size 5 1 v L.length (L.flatMap bC))∧Ext w wr) (fun n _ _ _=>(intOf n).natAbs)
 case atStart=>exact⟨u,[],rfl,Nat.le_refl _,DecI.start u,World.ownsRow_nil _ _ _ _,Ext.refl _⟩
 case round=>
  obtain⟨m,L,rfl,hm,hd,hown,hbl⟩:=hrel;cases q:((m:Int) == 0)
  ·have hm0:m≠0:=by simpa using q
   have DU:=hide (digit_u8 m);have LT:=hide ((unhide hd).lt hm0 (by omega));have NX:=hide ((unhide hd).step hm0 (by omega))
   all_goals
    go_wp2_with (at_builtin;refine wpList_append_lies _ rfl _ _ 22 rfl w.heap.size 5 i0 (.int .u8 0) 1 1 Tryz.underlying22 hi0 hz0 hz1 hz2 rfl (by decide) _ L.length (L.flatMap bC) rfl ((unhide hown).alloc _) _ 1 1 (bC (UInt8.ofNat (48+m % 10))) rfl rfl ?c1 ?c2 (by decide) ?c3 ?c4 ?c5 _ rfl ?_)
    case c1=>
     intro q u hk
     match q,hk with
     | 0,hk=>simp [bC] at hk;subst hk;have:=unhide DU;simp [Addr.add,go_sem];exact this
     | q+1,hk=>simp [bC] at hk
    case c2=>intro u hu;simp [bC] at hu;subst hu;rfl
    case c3=>have:=unhide LT;unfold maxLen;omega
    case c4=>have:=unhide LT;omega
    case c5=>have:=hbl.size;simp;omega
    intro g cap' w2 hown2 hgrow hat hglt
    have R:=hide (show w2.ownsRow w.heap.size 5 1 (.slice (some ⟨g,0,none⟩) (L.length+1) cap') (L++[UInt8.ofNat (48+m % 10)]).length ((L++[UInt8.ofNat (48+m % 10)]).flatMap bC) by
     rw[List.flatMap_append]
     simpa using hown2)
    have X2:=hide (grown_ext (hbl.alloc _) ((unhide hown).alloc _) (Nat.le_refl _) hgrow);clear hown2 hgrow hat hown;go_wp2_with fail;go_roundw
    case rel=>exact⟨m / 10,_,by go_num,by omega,unhide NX,unhide R,unhide X2⟩
    case measure=>simp [intOf];omega
  ·have hm0:m=0:=by simpa using q
   subst hm0;have L19:=(unhide hd).1;obtain⟨ad,cap,rfl,hx⟩:=own_bytes (unhide hown);have HX:=hide hx;clear hx hown;obtain⟨WO,hWO⟩:∃W,W=wr:=⟨_,rfl⟩;subst hWO;go_wp2_with fail;go_loopw [6,7] (fun v i wr=>∃(j:Nat) (ij:Int),j≤L.length∧ij=(j:Int)-1∧v=.string ⟨((L.drop j).reverse).toArray⟩∧i=.int .i64 ij∧Ext WO wr) (fun _ i _=>(intOf i+1).toNat)
   case atStart=>exact⟨L.length,_,Nat.le_refl _,rfl,by simp,by first | rfl | (congr 1;omega),Ext.refl _⟩
   case round=>
    obtain⟨j,ij,hj,hij,rfl,rfl,hb2⟩:=hrel;cases j with
    | zero=>
     have e:ij = -1:=by omega
     subst e;clear hij q;have FIN:=hide (unhide hd).done;go_wp2_with fail;go_ret;exact⟨by rw[unhide FIN];simp,hbl.trans hb2⟩
    | succ j=>
     have e:ij=(j:Int):=by omega
     subst e;clear hij q;obtain⟨g,rfl,hg,hc⟩:=unhide HX j (by omega);have e0:=hb2.keep hc;have CV:=conv1 wr L[j];have DR:=hide (drop_rev L j (by omega));have hk1:(j:Int)<(L.length:Int):=by omega
     have hk0:(0:Int)≤(j:Int):=by omega
     go_wp2_with fail;exact⟨⟨j,_,by omega,rfl,by rw[unhide DR];exact congrArg Value.string (str_app ((L.drop (j+1)).reverse) [L[j]]),rfl,hb2.alloc _⟩,by simp [intOf]⟩
theorem l7decimal_neg(u:Nat)(h0:u≠0)(h1:u≤9223372036854775808)(w:World):Calls Tryz.prog 20 #[.int .i64 (-(u:Int))] w fun e w'=>e=.returned (.string ⟨(45::dec0 u).toArray⟩)∧Ext w w':=by
 obtain⟨i0,hi0,hz0,hz1,hz2⟩:=info_parts infoU8;have q0:((-(u:Int)) == 0)=false:=by simp;omega
 have q1:-(u:Int)<0:=by omega
 go_enter Tryz.func20,Tryz.ntmps20;go_wp2_with fail;go_loopw [0,4,5] (fun n v d wr=>∃(m:Nat) (L:List UInt8),n=.int .i64 (-(m:Int))∧m≤u∧Hid (DecI u m L)∧Hid (wr.ownsRow w.heap.size 5 1 v L.length (L.flatMap bC))∧Ext w wr) (fun n _ _ _=>(intOf n).natAbs)
 case atStart=>exact⟨u,[],rfl,Nat.le_refl _,DecI.start u,World.ownsRow_nil _ _ _ _,Ext.refl _⟩
 case round=>
  obtain⟨m,L,rfl,hm,hd,hown,hbl⟩:=hrel;cases q:((-(m:Int)) == 0)
  ·have hm0:m≠0:=by simp at q;omega
   have DU:=hide (digit_u8 m);have LT:=hide ((unhide hd).lt hm0 (by omega));have NX:=hide ((unhide hd).step hm0 (by omega));by_cases q3:(0:Int)<(m:Int) % 10
   all_goals
    go_wp2_with (at_builtin;refine wpList_append_lies _ rfl _ _ 22 rfl w.heap.size 5 i0 (.int .u8 0) 1 1 Tryz.underlying22 hi0 hz0 hz1 hz2 rfl (by decide) _ L.length (L.flatMap bC) rfl ((unhide hown).alloc _) _ 1 1 (bC (UInt8.ofNat (48+m % 10))) rfl rfl ?c1 ?c2 (by decide) ?c3 ?c4 ?c5 _ rfl ?_)
    case c1=>
     intro q u hk
     match q,hk with
     | 0,hk=>simp [bC] at hk;subst hk;have:=unhide DU;simp [Addr.add,go_sem];omega
     | q+1,hk=>simp [bC] at hk
    case c2=>intro u hu;simp [bC] at hu;subst hu;rfl
    case c3=>have:=unhide LT;unfold maxLen;omega
    case c4=>have:=unhide LT;omega
    case c5=>have:=hbl.size;simp;omega
    intro g cap' w2 hown2 hgrow hat hglt
    have R:=hide (show w2.ownsRow w.heap.size 5 1 (.slice (some ⟨g,0,none⟩) (L.length+1) cap') (L++[UInt8.ofNat (48+m % 10)]).length ((L++[UInt8.ofNat (48+m % 10)]).flatMap bC) by
     rw[List.flatMap_append]
     simpa using hown2)
    have X2:=hide (grown_ext (hbl.alloc _) ((unhide hown).alloc _) (Nat.le_refl _) hgrow);clear hown2 hgrow hat hown;go_wp2_with fail;go_roundw
    case rel=>exact⟨m / 10,_,by first | go_num | (congr 1;omega),by omega,unhide NX,unhide R,unhide X2⟩
    case measure=>simp [intOf];omega
  ·have hm0:m=0:=by simp at q;omega
   subst hm0;have L19:=(unhide hd).1;obtain⟨ad,cap,rfl,hx⟩:=own_bytes (unhide hown);have HX:=hide hx;clear hx hown;obtain⟨WO,hWO⟩:∃W,W=wr:=⟨_,rfl⟩;subst hWO;go_wp2_with fail;go_loopw [6,7] (fun v i wr=>∃(j:Nat) (ij:Int),j≤L.length∧ij=(j:Int)-1∧v=.string ⟨(45::(L.drop j).reverse).toArray⟩∧i=.int .i64 ij∧Ext WO wr) (fun _ i _=>(intOf i+1).toNat)
   case atStart=>exact⟨L.length,_,Nat.le_refl _,rfl,by simp,by first | rfl | (congr 1;omega),Ext.refl _⟩
   case round=>
    obtain⟨j,ij,hj,hij,rfl,rfl,hb2⟩:=hrel;cases j with
    | zero=>
     have e:ij = -1:=by omega
     subst e;clear hij q;have FIN:=hide (unhide hd).done;go_wp2_with fail;go_ret;exact⟨by rw[unhide FIN];simp,hbl.trans hb2⟩
    | succ j=>
     have e:ij=(j:Int):=by omega
     subst e;clear hij q;obtain⟨g,rfl,hg,hc⟩:=unhide HX j (by omega);have e0:=hb2.keep hc;have CV:=conv1 wr L[j];have DR:=hide (drop_rev L j (by omega));have hk1:(j:Int)<(L.length:Int):=by omega
     have hk0:(0:Int)≤(j:Int):=by omega
     go_wp2_with fail;exact⟨⟨j,_,by omega,rfl,by rw[unhide DR];exact congrArg Value.string (str_app (45::(L.drop (j+1)).reverse) [L[j]]),rfl,hb2.alloc _⟩,by simp [intOf]⟩
theorem itoa_pos(u:Nat)(h:u≠0):Lib.itoa u=dec0 u:=by
 unfold Lib.itoa dec0;rw[if_neg (by omega),if_neg h];rfl
theorem itoa_neg(u:Nat)(h:u≠0):Lib.itoa (-(u:Int))=45::dec0 u:=by
 unfold Lib.itoa dec0;rw[if_pos (by omega),if_neg h];simp
theorem l7decimal_zero(w:World):Calls Tryz.prog 20 #[.int .i64 0] w fun e w'=>e=.returned (.string ⟨(Lib.itoa 0).toArray⟩)∧Ext w w':=by
 go_enter Tryz.func20,Tryz.ntmps20;go_wp2_with fail;go_ret;refine⟨?_,Ext.refl _⟩;rw[show Lib.itoa 0=[48] by rw[Lib.itoa,if_neg (by omega),Lib.decDigits,dif_pos (by decide)];rfl];rfl
theorem l7decimal_any(n:Int)(h0:-9223372036854775808≤n)(h1:n≤9223372036854775807)(w:World):Calls Tryz.prog 20 #[.int .i64 n] w fun e w'=>e=.returned (.string ⟨(Lib.itoa n).toArray⟩)∧Ext w w':=by
 by_cases hz:n=0
 ·subst hz;exact l7decimal_zero w
 ·by_cases hn:n<0
  ·obtain⟨u,rfl⟩:∃u:Nat,n = -(u:Int):=⟨n.natAbs,by omega⟩;rw[itoa_neg u (by omega)];exact l7decimal_neg u (by omega) (by omega) w
  ·obtain⟨u,rfl⟩:∃u:Nat,n=(u:Int):=⟨n.toNat,by omega⟩;rw[itoa_pos u (by omega)];exact l7decimal_pos u (by omega) (by omega) w
def nameT:List (List UInt8):=[[],[110,101,119],[110,117,109],[110,105,108],[99,111,112,121],[107,101,121],[118,97,108],[115,101,116,107,101,121],[115,101,116,118,97,108],[103,114,111,119],[99,117,116],[119,101,97,107],[108,97,115,116],[115,97,109,101],[119,111,114,100],[110,117,109,98,101,114],[107,105,110,100],[115,105,122,101],[115,101,116,116,108,101],[100,117,101],[99,111,117,110,116],[108,105,118,101],[115,116,101,112],[112,97,99,101],[114,111,117,110,100]]
def hasT:List (List Bool):=[[false,false,false,false],[true,true,true,false],[true,false,false,true],[true,false,false,false],[true,true,false,false],[true,true,true,false],[true,true,true,false],[true,true,true,false],[true,true,true,false],[true,false,true,false],[true,false,true,false],[true,false,true,false],[true,false,true,false],[true,true,false,false],[true,false,false,false],[true,false,false,false],[true,false,false,false],[true,false,false,false],[false,false,false,false],[true,false,false,false],[false,false,false,false],[false,false,false,false],[false,false,true,false],[false,true,true,false],[false,false,false,false]]
def nameL(op:Int):List UInt8:=nameT.getD op.toNat []
def hasL(op:Int)(j:Nat):Bool:=(hasT.getD op.toNat []).getD j false
def Ak.num(x:Ak)(j:Nat):Int:=[x.a,x.b,x.c,x.n].getD j 0
def fldL(x:Ak)(k:Nat):List UInt8:=(List.range k).flatMap (fun j=>if hasL x.op j=true then 32::Lib.itoa (x.num j) else [])
def lineL(x:Ak):List UInt8:=nameL x.op++fldL x 4
theorem fld_yes(x:Ak)(k:Nat)(h:hasL x.op k=true):fldL x (k+1)=fldL x k++32::Lib.itoa (x.num k):=by
 unfold fldL;rw[List.range_succ,List.flatMap_append];simp [h]
theorem fld_no(x:Ak)(k:Nat)(h:hasL x.op k=false):fldL x (k+1)=fldL x k:=by
 unfold fldL;rw[List.range_succ,List.flatMap_append];simp [h]
def HasAt(w:World)(v:Value)(op:Int):Prop:=∃g,v=.slice (some ⟨g,0,none⟩) 4 4∧∀j,j<4→w.cell? ⟨g,j,none⟩=some (.bool (hasL op j))
theorem HasAt.of(w:World)(op:Int)(b0 b1 b2 b3:Bool)(h0:hasL op 0=b0)(h1:hasL op 1=b1)(h2:hasL op 2=b2)(h3:hasL op 3=b3):HasAt (w.alloc (.cells #[.bool b0,.bool b1,.bool b2,.bool b3] 4)) (.slice (some ⟨w.heap.size,0,none⟩) 4 4) op:=by
 refine⟨_,rfl,fun j hj=>?_⟩
 match j,hj with
 | 0,_=>rw[h0];simp [go_sem]
 | 1,_=>rw[h1];simp [go_sem]
 | 2,_=>rw[h2];simp [go_sem]
 | 3,_=>rw[h3];simp [go_sem]
theorem l7has_any(op:Int)(h1:1≤op)(h2:op≤24)(w:World):Calls Tryz.prog 40 #[.int .i64 op] w fun e w'=>∃v,Hid (e=.returned v)∧HasAt w' v op∧Ext w w':=by
 have QL:=hide (fun W=>l5reg_any op h1 h2 W);have h:=op_cases op h1 h2;clear h1 h2;rcases h with rfl | rfl | rfl | rfl | rfl | rfl | rfl | rfl | rfl | rfl | rfl | rfl | rfl | rfl | rfl | rfl | rfl | rfl | rfl | rfl | rfl | rfl | rfl | rfl
 all_goals
  go_enter Tryz.func40,Tryz.ntmps40;go_wp2_with (go_at_call 37;refine(unhide QL _).mono ?_;rintro e w2 ⟨rfl,rfl⟩);go_ret;exact⟨_,rfl,HasAt.of _ _ _ _ _ _ rfl rfl rfl rfl,(Ext.refl _).alloc _⟩
theorem nameCell(w:World)(k:Nat)(hk:k<25):(w.alloc (.cells #[.string ⟨#[]⟩,.string ⟨#[110,101,119]⟩,.string ⟨#[110,117,109]⟩,.string ⟨#[110,105,108]⟩,.string ⟨#[99,111,112,121]⟩,.string ⟨#[107,101,121]⟩,.string ⟨#[118,97,108]⟩,.string ⟨#[115,101,116,107,101,121]⟩,.string ⟨#[115,101,116,118,97,108]⟩,.string ⟨#[103,114,111,119]⟩,.string ⟨#[99,117,116]⟩,.string ⟨#[119,101,97,107]⟩,.string ⟨#[108,97,115,116]⟩,.string ⟨#[115,97,109,101]⟩,.string ⟨#[119,111,114,100]⟩,.string ⟨#[110,117,109,98,101,114]⟩,.string ⟨#[107,105,110,100]⟩,.string ⟨#[115,105,122,101]⟩,.string ⟨#[115,101,116,116,108,101]⟩,.string ⟨#[100,117,101]⟩,.string ⟨#[99,111,117,110,116]⟩,.string ⟨#[108,105,118,101]⟩,.string ⟨#[115,116,101,112]⟩,.string ⟨#[112,97,99,101]⟩,.string ⟨#[114,111,117,110,100]⟩] 9)).cell? ⟨w.heap.size,k,none⟩=some (.string ⟨(nameL k).toArray⟩):=by
 have:(#[.string ⟨#[]⟩,.string ⟨#[110,101,119]⟩,.string ⟨#[110,117,109]⟩,.string ⟨#[110,105,108]⟩,.string ⟨#[99,111,112,121]⟩,.string ⟨#[107,101,121]⟩,.string ⟨#[118,97,108]⟩,.string ⟨#[115,101,116,107,101,121]⟩,.string ⟨#[115,101,116,118,97,108]⟩,.string ⟨#[103,114,111,119]⟩,.string ⟨#[99,117,116]⟩,.string ⟨#[119,101,97,107]⟩,.string ⟨#[108,97,115,116]⟩,.string ⟨#[115,97,109,101]⟩,.string ⟨#[119,111,114,100]⟩,.string ⟨#[110,117,109,98,101,114]⟩,.string ⟨#[107,105,110,100]⟩,.string ⟨#[115,105,122,101]⟩,.string ⟨#[115,101,116,116,108,101]⟩,.string ⟨#[100,117,101]⟩,.string ⟨#[99,111,117,110,116]⟩,.string ⟨#[108,105,118,101]⟩,.string ⟨#[115,116,101,112]⟩,.string ⟨#[112,97,99,101]⟩,.string ⟨#[114,111,117,110,100]⟩]:Array Value)[k]?=some (.string ⟨(nameL (k:Int)).toArray⟩):=by
  match k,hk with
  | 0,_=>rfl
  | 1,_=>rfl
  | 2,_=>rfl
  | 3,_=>rfl
  | 4,_=>rfl
  | 5,_=>rfl
  | 6,_=>rfl
  | 7,_=>rfl
  | 8,_=>rfl
  | 9,_=>rfl
  | 10,_=>rfl
  | 11,_=>rfl
  | 12,_=>rfl
  | 13,_=>rfl
  | 14,_=>rfl
  | 15,_=>rfl
  | 16,_=>rfl
  | 17,_=>rfl
  | 18,_=>rfl
  | 19,_=>rfl
  | 20,_=>rfl
  | 21,_=>rfl
  | 22,_=>rfl
  | 23,_=>rfl
  | 24,_=>rfl
  | k+25,h=>exact absurd h (by omega)
 simpa [go_sem] using this
theorem l7name_any(op:Int)(h1:1≤op)(h2:op≤24)(w:World):Calls Tryz.prog 39 #[.int .i64 op] w fun e w'=>e=.returned (.string ⟨(nameL op).toArray⟩)∧Ext w w':=by
 obtain⟨k,rfl⟩:∃k:Nat,op=(k:Int):=⟨op.toNat,by omega⟩;have C:=nameCell w k (by omega);obtain⟨r,hr⟩:∃r,r=(nameL k).toArray:=⟨_,rfl⟩;rw[←hr] at C ⊢;clear hr;have hk0:(0:Int)≤(k:Int):=by omega
 have hk1:(k:Int)<25:=by omega
 go_enter Tryz.func39,Tryz.ntmps39
 go_wp2
 go_ret;exact⟨rfl,(Ext.refl _).alloc _⟩
def Ak.Fit(x:Ak):Prop:=∀j,-9223372036854775808≤x.num j∧x.num j≤9223372036854775807
theorem getD_len{α:Type}(T:List (List α))(m:Nat)(h:T.all (fun l=>decide (l.length≤m))=true)(k:Nat):(T.getD k []).length≤m:=by
 rw[List.getD_eq_getElem?_getD];cases q:T[k]? with
 | none=>simp
 | some l=>simpa using of_decide_eq_true (List.all_eq_true.1 h l (List.mem_of_getElem? q))
theorem name_len(op:Int):(nameL op).length≤6:=getD_len nameT 6 (by decide) _
theorem Ak.Fit.len{x:Ak}(hf:x.Fit)(j:Nat):(Lib.itoa (x.num j)).length≤21:=Lib.itoa_length_le _ (hf j).1 (hf j).2
theorem fld_len{x:Ak}(hf:x.Fit):∀k,(fldL x k).length≤22*k
 | 0=>by simp [fldL]
 | k+1=>by
  have:=fld_len hf k;cases q:hasL x.op k
  ·rw[fld_no x k q];omega
  ·rw[fld_yes x k q];have:=hf.len k;simp;omega
theorem line_len{x:Ak}(hf:x.Fit):(lineL x).length≤94:=by
 have:=name_len x.op;have:=fld_len hf 4;unfold lineL;simp;omega
theorem l7line_any(x:Ak)(h1:1≤x.op)(h2:x.op≤24)(hf:x.Fit)(w:World):Calls Tryz.prog 22 #[x.v] w fun e w'=>e=.returned (.string ⟨(lineL x).toArray⟩)∧Ext w w':=by
 have QN:=hide (fun W=>l7name_any x.op h1 h2 W);have QH:=hide (fun W=>l7has_any x.op h1 h2 W);have QD:=hide (fun j W=>l7decimal_any (x.num j) (hf j).1 (hf j).2 W);go_enter Tryz.func22,Tryz.ntmps22;go_wp2_with fail;refine(unhide QN _).mono ?_;rintro e w2 ⟨rfl,x2⟩;have t1:w2.cell? ⟨w.heap.size,0,none⟩=some (iv x.op):=x2.keep (by simp [go_sem]);have t2:w2.cell? ⟨w.heap.size,1,none⟩=some (iv x.a):=x2.keep (by simp [go_sem]);have t3:w2.cell? ⟨w.heap.size,2,none⟩=some (iv x.b):=x2.keep (by simp [go_sem]);have t4:w2.cell? ⟨w.heap.size,3,none⟩=some (iv x.c):=x2.keep (by simp [go_sem]);have t5:w2.cell? ⟨w.heap.size,4,none⟩=some (iv x.n):=x2.keep (by simp [go_sem]);have hlt:w.heap.size<w2.heap.size:=cell_lt t1;have X0:=hide (((Ext.refl w).alloc (.cells #[iv x.op,iv x.a,iv x.b,iv x.c,iv x.n] 43)).trans x2);clear x2;go_wp2_with fail;refine(unhide QH _).mono ?_;rintro e w3 ⟨v,he,⟨g,rfl,hc⟩,x3⟩;have e2:=unhide he;clear he;subst e2;have HC:=hide hc
 have NC:=hide (show ∀j,j<4→w3.cell? ⟨w2.heap.size,j,none⟩=some (iv (x.num j)) from fun j hj=>x3.keep (by
  match j,hj with
  | 0,_=>simp [go_sem,Ak.num]
  | 1,_=>simp [go_sem,Ak.num]
  | 2,_=>simp [go_sem,Ak.num]
  | 3,_=>simp [go_sem,Ak.num]))
 have X3:=hide (((unhide X0).alloc _).trans x3);clear hc x3 t1 t2 t3 t4 t5 hlt X0;go_wp2_with fail;go_loopw [3,23] (fun v i wr=>∃k:Nat,k≤4∧i=.int .i64 k∧v=.string ⟨(nameL x.op++fldL x k).toArray⟩∧Ext w3 wr) (fun _ i _=>4-(intOf i).toNat)
 case atStart=>exact⟨0,by omega,rfl,by simp [fldL],Ext.refl _⟩
 case round=>
  obtain⟨k,hk,rfl,rfl,hb⟩:=hrel;by_cases hlt:k<4
  ·have c0:=hb.keep (unhide HC k hlt);have c1:=hb.keep (unhide NC k hlt);have hk0:(0:Int)≤(k:Int):=by omega
   have hk1:(k:Int)<4:=by omega
   have QE:=hide (unhide QD k);cases q:hasL x.op k
   ·rw[q] at c0;have FN:=hide (fld_no x k q);go_wp2_with fail;go_roundw
    case rel=>exact⟨k+1,by omega,by go_num,by rw[unhide FN],hb⟩
    case measure=>simp [intOf];omega
   ·rw[q] at c0;have FN:=hide (fld_yes x k q);have b1:=hf.len k;have b2:=name_len x.op;have b3:=fld_len hf k;go_wp2_with fail;refine(unhide QE _).mono ?_;rintro e w4 ⟨rfl,x4⟩;go_wp2_with fail;go_roundw
    case rel=>exact⟨k+1,by omega,by go_num,by rw[unhide FN];exact congrArg Value.string ((congrArg _ (str_app [32] _)).trans ((str_app _ _).trans (by simp))),hb.trans x4⟩
    case measure=>simp [intOf];omega
  ·have e:k=4:=by omega
   subst e;go_wp2_with fail;go_ret;exact⟨rfl,(unhide X3).trans hb⟩
def okA(x:Ak):Bool:=actOkB x.op x.a x.b x.c x.n
def roomL(room:Int):List UInt8:=[114,111,111,109,32]++Lib.itoa room++[10]
def textL(room:Int)(xs:List Ak):List UInt8:=roomL room++xs.flatMap (fun x=>lineL x++[10])
def writeB(room:Int)(xs:List Ak):Bool:=l1inB room 1 4000 && (decide (xs.length≤1000) && (xs.all okA && decide ((textL room xs).length≤20000)))
def writeL(room:Int)(xs:List Ak):List UInt8:=if writeB room xs=true then textL room xs else []
theorem write_no{room:Int}{xs:List Ak}(h:l1inB room 1 4000=false∨1000<xs.length∨xs.all okA=false∨20000<(textL room xs).length):writeL room xs=[]:=by
 unfold writeL;rw[if_neg];unfold writeB;rcases h with h | h | h | h
 ·simp [h]
 ·simp [show ¬xs.length≤1000 by omega]
 ·simp [h]
 ·simp [show ¬(textL room xs).length≤20000 by omega]
theorem write_yes{room:Int}{xs:List Ak}(h1:l1inB room 1 4000=true)(h2:xs.length≤1000)(h3:xs.all okA=true)(h4:(textL room xs).length≤20000):writeL room xs=textL room xs:=by
 unfold writeL;rw[if_pos];unfold writeB;simp [h1,h2,h3,h4]
theorem okA_op{x:Ak}(h:okA x=true):1≤x.op∧x.op≤24:=by
 unfold okA actOkB at h;simp at h;omega
theorem text_take(room:Int)(xs:List Ak)(k:Nat)(hk:k<xs.length):textL room (xs.take (k+1))=textL room (xs.take k)++(lineL xs[k]++[10]):=by
 unfold textL;rw[List.take_succ_eq_append_getElem hk,List.flatMap_append];simp
theorem room_len(room:Int)(h0:-9223372036854775808≤room)(h1:room≤9223372036854775807):(roomL room).length≤27:=by
 have:=Lib.itoa_length_le room h0 h1;unfold roomL;simp;omega
theorem text_len(room:Int)(h0:-9223372036854775808≤room)(h1:room≤9223372036854775807)(xs:List Ak)(hf:∀x∈xs,x.Fit):(textL room xs).length≤27+95*xs.length:=by
 have hr:=room_len room h0 h1;unfold textL;rw[List.length_append]
 have:∀ys:List Ak,(∀x∈ys,x.Fit)→(ys.flatMap (fun x=>lineL x++[10])).length≤95*ys.length:=by
  intro ys
  induction ys with
  | nil=>simp
  | cons y ys ih=>
   intro h;have h1:=ih (fun x hx=>h x (List.mem_cons_of_mem _ hx));have h2:=line_len (h y (List.mem_cons_self ..));rw[List.flatMap_cons,List.length_append,List.length_append,List.length_singleton,List.length_cons];omega
 have:=this xs hf;omega
theorem room_str(room:Int):(⟨#[114,111,111,109,32]⟩:ByteArray)++⟨(Lib.itoa room).toArray⟩++⟨#[10]⟩=⟨(roomL room).toArray⟩:=by
 have h1:=str_app [114,111,111,109,32] (Lib.itoa room);have h2:=str_app ([114,111,111,109,32]++Lib.itoa room) [10];exact(congrArg (· ++ (⟨#[10]⟩:ByteArray)) h1).trans h2
theorem line_str(x:Ak):(⟨(lineL x).toArray⟩:ByteArray)++⟨#[10]⟩=⟨(lineL x++[10]).toArray⟩:=str_app (lineL x) [10]
theorem strCells_of{s:ByteArray}{l:List UInt8}(h:s=⟨l.toArray⟩):Lib.strCells s=Lib.byteCells l:=by subst h;rfl
theorem size_of{s:ByteArray}{l:List UInt8}(h:s=⟨l.toArray⟩):s.size=l.length:=by subst h;simp [ByteArray.size]
theorem text_zero(room:Int)(xs:List Ak):textL room (xs.take 0)=roomL room:=by simp [textL]
theorem specActOk_r(y:Ak)(r:Bool)(h:okA y=r)(w:World):Calls Tryz.prog 21 #[y.v] w fun e w'=>e=.returned (.bool r)∧Ext w w':=h ▸ specActOk_any y.op y.a y.b y.c y.n w
theorem all_take(xs:List Ak)(k:Nat)(hk:k<xs.length)(h:okA xs[k]=false):xs.all okA=false:=by
 rw[List.all_eq_false];exact⟨xs[k],List.getElem_mem hk,by simp [h]⟩
theorem bytes_conv{w:World}{B:Nat}{v:Value}{L:List UInt8}(h0:L≠[])(h:w.ownsRow B 5 1 v L.length (Lib.byteCells L)):∃g cap,v=.slice (some ⟨g,0,none⟩) L.length cap∧(convert 22 9 (.slice (some ⟨g,0,none⟩) L.length cap)).run Tryz.prog w=.ok (.string ⟨L.toArray⟩) w:=by
 have e:Lib.byteCells L=L.flatMap bC:=by
  clear h h0
  induction L with
  | nil=>rfl
  | cons a l ih=>rw[List.flatMap_cons,←ih];rfl
 rw[e] at h;obtain⟨ad,cap,rfl,hx⟩:=own_bytes h;have hl:0<L.length:=List.length_pos_iff.2 h0;obtain⟨g,rfl,_,_⟩:=hx 0 hl;refine⟨g,cap,rfl,run_convert_bytes_back (P:=Tryz.prog) w 22 9 5 ⟨g,0,none⟩ cap L Tryz.underlying22 Tryz.underlying5 Tryz.underlying9 (fun j hj=>?_)⟩;obtain⟨g',e',_,hc⟩:=hx j hj;cases e';have e2:(⟨g,0,none⟩:Addr).add j=⟨g,j,none⟩:=by by_cases hj0:j=0 <;> simp [Addr.add,hj0]
 rw[e2];exact hc
theorem specWrite_any(room:Int)(xs:List Ak)(v:Value)(w:World)(hr0:-9223372036854775808≤room)(hr1:room≤9223372036854775807)(h:SlA w v xs)(hf:∀x∈xs,x.Fit)(hn:xs.length≤1048576):
  Calls Tryz.prog 6 #[.int .i64 room,v] w fun e w'=>e=.returned (.string ⟨(writeL room xs).toArray⟩)∧Ext w w':=by
 obtain⟨i0,hi0,hz0,hz1,hz2⟩:=info_parts infoU8;obtain⟨ad,cap,rfl,_,hx⟩:=h;have HX:=hide hx;clear hx;cases q1:l1inB room 1 4000
 ·have QI:=hide (fun W=>l1in_r room 1 4000 false q1 W);have E:=hide (write_no (room:=room) (xs:=xs) (.inl q1));go_enter Tryz.func6,Tryz.ntmps6;go_wp2_with (first | (go_at_call 19;refine(unhide QI _).mono ?_;rintro e w2 ⟨rfl,rfl⟩));go_ret;exact⟨by rw[unhide E];rfl,Ext.refl _⟩
 ·have QI:=hide (fun W=>l1in_r room 1 4000 true q1 W);by_cases q2:1000<xs.length
  ·have E:=hide (write_no (room:=room) (xs:=xs) (.inr (.inl q2)));go_enter Tryz.func6,Tryz.ntmps6;go_wp2_with (first | (go_at_call 19;refine(unhide QI _).mono ?_;rintro e w2 ⟨rfl,rfl⟩));go_ret;exact⟨by rw[unhide E];rfl,Ext.refl _⟩
  ·have QD:=hide (fun W=>l7decimal_any room hr0 hr1 W);have b1:=Lib.itoa_length_le room hr0 hr1;have TL:=hide (fun k=>text_len room hr0 hr1 (xs.take k) (fun x hx=>hf x (List.mem_of_mem_take hx)));have TK:=hide (fun k hk=>text_take room xs k hk);have RL:=hide (room_len room hr0 hr1);have YES:=hide (fun h3 h4=>write_yes (room:=room) (xs:=xs) q1 (by omega) h3 h4);have N3:=hide (fun h=>write_no (room:=room) (xs:=xs) (.inr (.inr (.inl h))));have N4:=hide (fun h=>write_no (room:=room) (xs:=xs) (.inr (.inr (.inr h))));have FT:=hide hf;clear hf;go_enter Tryz.func6,Tryz.ntmps6;go_wp2_with (first | (go_at_call 19;refine(unhide QI _).mono ?_;rintro e w2 ⟨rfl,rfl⟩));refine(unhide QD _).mono ?_;rintro e w3 ⟨rfl,x3⟩;go_wp2_with (at_builtin;refine Lib.wpList_append_own_string _ rfl _ _ 22 9 rfl w2.heap.size 5 i0 Tryz.underlying22 Tryz.underlying9 hi0 hz0 hz1 hz2 _ 0 [] rfl (World.ownsRow_nil _ _ _ _) _ rfl ?c1 ?c2 ?c3 ?_)
   case c1=>rw[size_of (room_str room)];have:=unhide RL;unfold maxLen;omega
   case c2=>rw[size_of (room_str room)];have:=unhide RL;omega
   case c3=>exact x3.size
   intro v4 w4 hown4 hgrow _
   have R0:=hide (show w4.ownsRow w2.heap.size 5 1 v4 (textL room (xs.take 0)).length (Lib.byteCells (textL room (xs.take 0))) by
    rw[strCells_of (room_str room)] at hown4;rw[text_zero];have e:(roomL room).length=5+(Lib.itoa room).length+1:=by unfold roomL;simp;omega
    rw[e];exact hown4)
   have X4:=hide (grown_ext x3 (World.ownsRow_nil _ _ 5 1) (Nat.le_refl _) hgrow);clear hown4 hgrow;go_wp2_with fail;go_loopw [5,24] (fun v i wr=>∃k:Nat,k≤xs.length∧i=.int .i64 k∧Hid (∀x∈xs.take k,okA x=true)∧Hid (wr.ownsRow w2.heap.size 5 1 v (textL room (xs.take k)).length (Lib.byteCells (textL room (xs.take k))))∧Ext w2 wr) (fun _ i _=>xs.length-(intOf i).toNat)
   case atStart=>exact⟨0,Nat.zero_le _,rfl,hide (by simp),unhide R0,unhide X4⟩
   case round=>
    obtain⟨k,hk,rfl,hall,hown,hbl⟩:=hrel;by_cases hlt:k<xs.length
    ·obtain⟨b,o,rfl,p0,p1,p2,p3,p4⟩:=unhide HX k hlt;have e0:=hbl.keep p0;have e1:=hbl.keep p1;have e2:=hbl.keep p2;have e3:=hbl.keep p3;have e4:=hbl.keep p4;clear p0 p1 p2 p3 p4;have hb':b<wr.heap.size:=cell_lt e0;have hk0:(0:Int)≤(k:Int):=by omega
     have hk1:(k:Int)<(xs.length:Int):=by omega
     have FX:=hide (unhide FT xs[k] (List.getElem_mem hlt));have NX:=hide (unhide TK k hlt);have TLk:=hide (unhide TL k);have AT:=hide (fun h=>all_take xs k hlt h)
     have AY:=hide (show okA xs[k]=true→∀x∈xs.take (k+1),okA x=true from fun hy x hx=>by
      rw[List.take_succ_eq_append_getElem hlt,List.mem_append] at hx;rcases hx with hx | hx
      ·exact unhide hall x hx
      ·rw[List.mem_singleton.1 hx];exact hy)
     obtain⟨y,hy⟩:∃y,y=xs[k]:=⟨_,rfl⟩;rw[←hy] at e0 e1 e2 e3 e4 FX NX AT AY;clear hy;have xa:=(Ext.refl wr).alloc (.cells #[iv y.op,iv y.a,iv y.b,iv y.c,iv y.n] 43);cases q3:okA y
     ·have QO:=hide (fun W=>specActOk_r y false q3 W);have E:=hide (unhide N3 (unhide AT q3));go_wp2_with fail;refine(unhide QO _).mono ?_;rintro e w5 ⟨rfl,x5⟩;go_wp2_with fail;go_ret;exact⟨by rw[unhide E];rfl,(hbl.trans xa).trans x5⟩
     ·have QO:=hide (fun W=>specActOk_r y true q3 W);have OP:=hide (okA_op q3);have QL:=hide (fun W=>l7line_any y (unhide OP).1 (unhide OP).2 (unhide FX) W);have b2:=line_len (unhide FX);have hb0:=hbl.size;go_wp2_with fail;refine(unhide QO _).mono ?_;rintro e w5 ⟨rfl,x5⟩;have t0:w5.cell? ⟨wr.heap.size,0,none⟩=some (iv y.op):=x5.keep (by simp [go_sem]);have t1:w5.cell? ⟨wr.heap.size,1,none⟩=some (iv y.a):=x5.keep (by simp [go_sem]);have t2:w5.cell? ⟨wr.heap.size,2,none⟩=some (iv y.b):=x5.keep (by simp [go_sem]);have t3:w5.cell? ⟨wr.heap.size,3,none⟩=some (iv y.c):=x5.keep (by simp [go_sem]);have t4:w5.cell? ⟨wr.heap.size,4,none⟩=some (iv y.n):=x5.keep (by simp [go_sem]);go_wp2_with fail;refine(unhide QL _).mono ?_;rintro e w6 ⟨rfl,x6⟩;have X6:=hide ((xa.trans x5).trans x6);have O6:=hide (ownsRow_of_block (unhide hown) (fun q hq=>(unhide X6).block q ((unhide hown).lt q hq).2));go_wp2_with (at_builtin;refine Lib.wpList_append_own_string _ rfl _ _ 22 9 rfl w2.heap.size 5 i0 Tryz.underlying22 Tryz.underlying9 hi0 hz0 hz1 hz2 _ _ _ rfl (unhide O6) _ rfl ?c1 ?c2 ?c3 ?_)
      case c1=>rw[size_of (line_str y)];have:=unhide TLk;simp at this ⊢;unfold maxLen;omega
      case c2=>rw[size_of (line_str y)];have:=unhide TLk;simp at this ⊢;omega
      case c3=>have:=(unhide X6).size;omega
      intro v7 w7 hown7 hgrow _
      have R:=hide (show w7.ownsRow w2.heap.size 5 1 v7 (textL room (xs.take (k+1))).length (Lib.byteCells (textL room (xs.take (k+1)))) by
       rw[strCells_of (line_str y)] at hown7;rw[unhide NX,List.length_append,Lib.byteCells_append];have e:(lineL y++[10]).length=(lineL y).length+1:=by simp
       rw[e];exact hown7)
      have X7:=hide (grown_ext (hbl.trans (unhide X6)) (unhide O6) (Nat.le_refl _) hgrow);clear hown7 hgrow;go_wp2_with fail;go_roundw
      case rel=>exact⟨k+1,by omega,by go_num,unhide AY q3,unhide R,unhide X7⟩
      case measure=>simp [intOf];omega
    ·have e:k=xs.length:=by omega
     subst e;have R:=hown;rw[List.take_length] at R;have ALL:=hide (show xs.all okA=true from List.all_eq_true.2 (fun x hx=>unhide hall x (by rw[List.take_length];exact hx)));obtain⟨g,cap',hv,hcv⟩:=bytes_conv (show textL room xs≠[] by unfold textL roomL;simp) (unhide R);subst hv;by_cases q4:20000<(textL room xs).length
     ·have E:=hide (unhide N4 q4);clear hcv;go_wp2_with fail;go_ret;exact⟨by rw[unhide E];rfl,hbl⟩
     ·have E:=hide (unhide YES (unhide ALL) (by omega));go_wp2_with fail;go_ret;exact⟨by rw[unhide E];rfl,hbl⟩
end Go.Proofs.YtnegjhddmfiefaaGreatDoor
namespace Go.Proofs.YtnegjhddmfiefaaGreatDoor
open Go.Shelf
open Go.RowKit
attribute [local go_sem ↓] Go.wp_at_zero Go.wp_at_succ
def Tryz.lays166_ren:Go.Shelf.Ren:=⟨fun | 166=>13 | 240=>33 | 276=>52 | n=>n,fun | 0=>0 | 3=>3 | 4=>4 | 5=>5 | 9=>9 | 20=>20 | 37=>22 | 70=>34 | 72=>36 | 75=>38 | 80=>47 | 164=>98 | n=>n,fun | n=>n⟩
theorem Tryz.lays166:Go.Proofs.Lays.n166 Tryz.prog Tryz.lays166_ren:={
 mixed:=by kernel_rfl
 f166:=Tryz.func13.trans (congrArg some (by kernel_rfl))
 f240:=Tryz.func33.trans (congrArg some (by kernel_rfl))
 f276:=Tryz.func52.trans (congrArg some (by kernel_rfl))
 t0:=Tryz.underlying0
 a0:=Tryz.isAgg0
 z0:=Tryz.sizeOf0
 v0:=Tryz.zeroValue0
 t3:=Tryz.underlying3
 a3:=Tryz.isAgg3
 z3:=Tryz.sizeOf3
 v3:=Tryz.zeroValue3
 t4:=Tryz.underlying4
 a4:=Tryz.isAgg4
 z4:=Tryz.sizeOf4
 v4:=Tryz.zeroValue4
 t9:=Tryz.underlying9
 a9:=Tryz.isAgg9
 z9:=Tryz.sizeOf9
 v9:=Tryz.zeroValue9
 t20:=Tryz.underlying20
 a20:=Tryz.isAgg20
 z20:=Tryz.sizeOf20
 v20:=Tryz.zeroValue20
 t37:=Tryz.underlying22
 a37:=Tryz.isAgg22
 z37:=Tryz.sizeOf22
 v37:=Tryz.zeroValue22
 t70:=Tryz.underlying34
 a70:=Tryz.isAgg34
 z70:=Tryz.sizeOf34
 v70:=Tryz.zeroValue34
 t72:=Tryz.underlying36
 a72:=Tryz.isAgg36
 z72:=Tryz.sizeOf36
 v72:=Tryz.zeroValue36
 t75:=Tryz.underlying38
 a75:=Tryz.isAgg38
 z75:=Tryz.sizeOf38
 v75:=Tryz.zeroValue38
 t164:=Tryz.underlying98
 a164:=Tryz.isAgg98
 z164:=Tryz.sizeOf98
 v164:=Tryz.zeroValue98 }
theorem Tryz.Builder_Extra_166:Builder.Extra Tryz.prog Tryz.lays166_ren:={
 sizeBuilder:=by kernel_rfl
 liesBuilder:=by kernel_rfl
 t5:=Tryz.underlying5
 a5:=Tryz.isAgg5
 z5:=Tryz.sizeOf5
 v5:=Tryz.zeroValue5
 infoByte:=by kernel_rfl
 cellsByte:=by kernel_rfl
 sizeByte:=by kernel_rfl
 neB5:=by decide }
theorem Tryz.Builder_WriteString_k(B b:Nat)(bs:List Value)(s:ByteArray)(w:World)(h:Lib.IsBuilderF 36 5 B b bs w)(hlen:bs.length+s.size≤140737488355328)(hBw:B≤w.heap.size):
  Calls Tryz.prog 13 #[.pointer (some ⟨b,0,none⟩),.string s] w fun e w'=>e=.returned (.tuple #[.int .i64 s.size,.nilIface])∧(Lib.BuilderAtF 36 5 B b (.pointer (some ⟨b,0,none⟩)) (bs++Lib.strCells s) w'∧Below B w w'∧Lib.OthersKept 5 (some b) w w'):=Any.Builder_WriteString_k Tryz.lays166 Tryz.Builder_Extra_166 B b bs s w h hlen hBw
end Go.Proofs.YtnegjhddmfiefaaGreatDoor
namespace Go.Proofs.YtnegjhddmfiefaaGreatDoor
open Go.RowKit
attribute [local go_sem ↓] Go.wp_at_zero Go.wp_at_succ
def powName : String := "internal/strconv.uint64pow10"
def PowAt(w:World):Prop:=Lib.TabIs Tryz.prog w powName .u64 Lib.pow10Tab
theorem PowAt.ext{w w':World}(h:PowAt w)(e:Ext w w'):PowAt w':=Lib.tabBelow_of_tabIs h w' e
theorem tab_as{w:World}{s t:String}(e:s=t)(h:Lib.TabIs Tryz.prog w t .u64 Lib.pow10Tab):Lib.TabIs Tryz.prog w s .u64 Lib.pow10Tab:=e ▸ h
def letT:List (List UInt8):=[[],[65,66,67],[65,78],[65],[65,66],[65,66,67],[65,66,67],[65,66,67],[65,66,67],[65,67],[65,67],[65,67],[65,67],[65,66],[65],[65],[65],[65],[],[65],[],[],[67],[66,67],[]]
def letL(op:Int):List UInt8:=letT.getD op.toNat []
def FormsAt(w:World):Prop:=∀k:Nat,k<25→w.cell? ⟨0,k*2,none⟩=some (.string ⟨(nameL k).toArray⟩)∧w.cell? ⟨0,k*2+1,none⟩=some (.string ⟨(letL k).toArray⟩)
theorem FormsAt.ext{w w':World}(h:FormsAt w)(e:Ext w w'):FormsAt w':=fun k hk=>⟨e.keep (h k hk).1,e.keep (h k hk).2⟩
def Tab(w:World):Prop:=PowAt w∧FormsAt w
theorem Tab.ext{w w':World}(h:Tab w)(e:Ext w w'):Tab w':=⟨h.1.ext e,h.2.ext e⟩
theorem decimal_any(n:Int)(h0:-9223372036854775808≤n)(h1:n≤9223372036854775807)(w:World)(hp:PowAt w):Calls Tryz.prog 34 #[.int .i64 n] w fun e w'=>e=.returned (.string ⟨(Lib.itoa n).toArray⟩)∧Ext w w':=by
 have Q:=hide (fun W (h:PowAt W)=>Any.strconv_FormatInt_10 Tryz.laysM173 n h0 h1 W (tab_as (by kernel_rfl) h));have HP:=hide hp;clear hp;go_enter Tryz.func34,Tryz.ntmps34;go_wp2_with (go_at_call 53;refine(unhide Q _ (unhide HP)).mono ?_;rintro e w2 ⟨rfl,k,os,rfl⟩);go_ret;exact⟨rfl,Lib.below_grow _ w (Nat.le_refl _) k os⟩
def Ak.byLet(x:Ak)(c:Int):Int:=if c=65 then x.a else if c=66 then x.b else if c=67 then x.c else x.n
theorem field_any(x:Ak)(c:Int)(w:World):Calls Tryz.prog 36 #[x.v,.int .i32 c] w fun e w'=>e=.returned (.int .i64 (x.byLet c))∧Ext w w':=by
 by_cases q1:c=65
 ·subst q1;go_enter Tryz.func36,Tryz.ntmps36
  go_wp2
  go_ret;exact⟨rfl,(Ext.refl _).alloc _⟩
 ·by_cases q2:c=66
  ·subst q2;go_enter Tryz.func36,Tryz.ntmps36
   go_wp2
   go_ret;exact⟨rfl,(Ext.refl _).alloc _⟩
  ·by_cases q3:c=67
   ·subst q3;go_enter Tryz.func36,Tryz.ntmps36
    go_wp2
    go_ret;exact⟨rfl,(Ext.refl _).alloc _⟩
   ·have E:=hide (show x.byLet c=x.n by unfold Ak.byLet;rw[if_neg q1,if_neg q2,if_neg q3]);have r1:(c == 65)=false:=by simpa using q1
    have r2:(c == 66)=false:=by simpa using q2
    have r3:(c == 67)=false:=by simpa using q3
    clear q1 q2 q3;go_enter Tryz.func36,Tryz.ntmps36
    go_wp2
    go_ret;exact⟨by rw[unhide E];rfl,(Ext.refl _).alloc _⟩
def numsT(ns:List Int):List UInt8:=ns.flatMap (fun n=>32::Lib.itoa n)
theorem nums_take(ns:List Int)(k:Nat)(hk:k<ns.length):numsT (ns.take (k+1))=numsT (ns.take k)++32::Lib.itoa ns[k]:=by
 unfold numsT;rw[List.take_succ_eq_append_getElem hk,List.flatMap_append];simp
def FitN(ns:List Int):Prop:=∀n∈ns,-9223372036854775808≤n∧n≤9223372036854775807
theorem nums_len{ns:List Int}(h:FitN ns):(numsT ns).length≤22*ns.length:=by
 unfold numsT
 induction ns with
 | nil=>simp
 | cons n ns ih=>
  have h1:=ih (fun m hm=>h m (List.mem_cons_of_mem _ hm));have h2:=h n (List.mem_cons_self ..);have h3:=Lib.itoa_length_le n h2.1 h2.2;rw[List.flatMap_cons,List.length_append,List.length_cons,List.length_cons];omega
theorem lineOf_any(wd:List UInt8)(ns:List Int)(v:Value)(w:World)(hv:SlI w v ns)(hf:FitN ns)(hw:wd.length≤100)(hn:ns.length≤4)(hp:PowAt w):
  Calls Tryz.prog 14 #[.string ⟨wd.toArray⟩,v] w fun e w'=>e=.returned (.string ⟨(wd++numsT ns++[10]).toArray⟩)∧Ext w w':=by
 obtain⟨ad,cap,rfl,_,hx⟩:=hv;have HX:=hide hx;clear hx;have HP:=hide hp;clear hp;have LN:=hide (fun k=>nums_len (ns:=ns.take k) (fun n hn=>hf n (List.mem_of_mem_take hn)));go_enter Tryz.func14,Tryz.ntmps14;go_wp2_with fail;go_loopw [0,9] (fun v i wr=>∃k:Nat,k≤ns.length∧i=.int .i64 k∧v=.string ⟨(wd++numsT (ns.take k)).toArray⟩∧Ext w wr) (fun _ i _=>ns.length-(intOf i).toNat)
 case atStart=>exact⟨0,by omega,rfl,by simp [numsT],Ext.refl _⟩
 case round=>
  obtain⟨k,hk,rfl,rfl,hb⟩:=hrel;have ln:=unhide LN k;rw[List.length_take] at ln;by_cases hlt:k<ns.length
  ·obtain⟨b,o,rfl,c0⟩:=unhide HX k hlt;have e0:wr.cell? ⟨b,o+k,none⟩=some (.int .i64 ns[k]):=by have:=hb.keep c0;simpa using this
   clear c0;have FT:=hf ns[k] (List.getElem_mem hlt);have b1:=Lib.itoa_length_le ns[k] FT.1 FT.2;have QD:=hide (decimal_any ns[k] FT.1 FT.2 wr ((unhide HP).ext hb));have NX:=hide (nums_take ns k hlt);obtain⟨y,hy⟩:∃y,y=ns[k]:=⟨_,rfl⟩;rw[←hy] at e0 b1 QD NX;clear hy FT;have hk0:(0:Int)≤(k:Int):=by omega
   have hk1:(k:Int)<(ns.length:Int):=by omega
   go_wp2_with fail;refine(unhide QD).mono ?_;rintro e w4 ⟨rfl,x4⟩;go_wp2_with fail;go_roundw
   case rel=>exact⟨k+1,by omega,by go_num,by rw[unhide NX];exact congrArg Value.string ((congrArg _ (str_app [32] _)).trans ((str_app _ _).trans (by simp))),hb.trans x4⟩
   case measure=>simp [intOf];omega
  ·have e:k=ns.length:=by omega
   subst e;rw[List.take_length] at ln ⊢;go_wp2_with fail;go_ret;exact⟨congrArg (fun s=>Ending.returned (Value.string s)) (str_app _ [10]),hb⟩
def letN(x:Ak):List Int:=(letL x.op).map (fun c=>x.byLet (c.toNat:Int))
theorem letL_len(op:Int):(letL op).length≤4:=getD_len letT 4 (by decide) _
theorem letL_ascii(op:Int):∀c∈letL op,c.toNat<128:=by
 have h:letT.all (fun l=>l.all (fun c=>decide (c.toNat<128)))=true:=by decide
 intro c hc;unfold letL at hc;rw[List.getD_eq_getElem?_getD] at hc;cases q:letT[op.toNat]? with
 | none=>rw[q] at hc;simp at hc
 | some l=>
  rw[q] at hc;have:=List.all_eq_true.1 h l (List.mem_of_getElem? q);exact of_decide_eq_true (List.all_eq_true.1 this c (by simpa using hc))
theorem letN_fit{x:Ak}(hf:x.Fit):FitN (letN x):=by
 intro n hn;unfold letN at hn;obtain⟨c,_,rfl⟩:=List.mem_map.1 hn;unfold Ak.byLet
 split
 ·exact hf 0
 ·split
  ·exact hf 1
  ·split
   ·exact hf 2
   ·exact hf 3
theorem let_line(x:Ak)(h1:1≤x.op)(h2:x.op≤24):nameL x.op++numsT (letN x)=lineL x:=by
 unfold lineL
 congr 1
 obtain⟨op,a,b,c,n⟩:=x;simp only at h1 h2;have h:=op_cases op h1 h2;clear h1 h2;rcases h with rfl | rfl | rfl | rfl | rfl | rfl | rfl | rfl | rfl | rfl | rfl | rfl | rfl | rfl | rfl | rfl | rfl | rfl | rfl | rfl | rfl | rfl | rfl | rfl
 all_goals (simp [numsT,letN,letL,letT,fldL,hasL,hasT,Ak.byLet,Ak.num,List.range_succ])
theorem infoI64:(Tryz.prog.info? 2).map (fun i=>(i.zero,i.size,i.bytes))=some (some (.int .i64 0),1,8):=by kernel_rfl
def nC(n:Int):List Value:=[iv n]
theorem own_nums{w:World}{B:Nat}{v:Value}{L:List Int}(h:w.ownsRow B 2 1 v L.length (L.flatMap nC))(hl:L.length≤1048576):SlI w v L:=by
 obtain⟨ad,cap,e,_,hx⟩:=own_cells (f:=nC) (fun _=>rfl) h;refine⟨ad,cap,e,by omega,fun i hi=>?_⟩;obtain⟨g,ea,_,_,hc⟩:=hx i hi;exact⟨g,0,ea,by have:=hc 0 (by simp);simpa [nC,InAt] using this⟩
theorem lt_get(lt:List UInt8)(k:Nat)(_h:k<lt.length)(h':k<(⟨lt.toArray⟩:ByteArray).size):(⟨lt.toArray⟩:ByteArray)[k]'h'=lt[k]:=rfl
theorem next_let{w:World}{b k:Nat}{lt:List UInt8}(hit:w.heap[b]?=some (.stringIter ⟨lt.toArray⟩ k))(hk:k<lt.length)(ha:∀c∈lt,c.toNat<128)(ty:TypeId):(Instr.next (.pointer (some ⟨b,0,none⟩)) true ty).run Tryz.prog w=.ok (.tuple #[.bool true,.int .i64 k,.int .i32 (lt[k].toNat:Int)]) (w.iterAt b ⟨lt.toArray⟩ (k+1)):=by
 have h':k<(⟨lt.toArray⟩:ByteArray).size:=by simpa [ByteArray.size] using hk
 exact Lib.run_next_ascii_at w b ⟨lt.toArray⟩ k ty hit h' (ha _ (by rw[lt_get lt k hk h'];exact List.getElem_mem hk))
theorem next_end{w:World}{b k:Nat}{lt:List UInt8}(hit:w.heap[b]?=some (.stringIter ⟨lt.toArray⟩ k))(hk:¬k<lt.length)(ty:TypeId):(Instr.next (.pointer (some ⟨b,0,none⟩)) true ty).run Tryz.prog w=.ok (.tuple #[.bool false]) w:=
 Lib.run_next_end_at w b ⟨lt.toArray⟩ k ty hit (by simpa [ByteArray.size] using hk)
theorem let_take(x:Ak)(lt:List UInt8)(k:Nat)(hk:k<lt.length):(lt.take (k+1)).map (fun c=>x.byLet (c.toNat:Int))=(lt.take k).map (fun c=>x.byLet (c.toNat:Int))++[x.byLet (lt[k].toNat:Int)]:=by
 rw[List.take_succ_eq_append_getElem hk,List.map_append];rfl
theorem actLine_any(x:Ak)(h1:1≤x.op)(h2:x.op≤24)(hf:x.Fit)(w:World)(ht:Tab w):Calls Tryz.prog 16 #[x.v] w fun e w'=>e=.returned (.string ⟨(lineL x++[10]).toArray⟩)∧Ext w w':=by
 have f0:w.cell? ⟨0,x.op.toNat*2,none⟩=some (.string ⟨(nameL x.op).toArray⟩):=by
  have:=(ht.2 x.op.toNat (by omega)).1
  rwa [show((x.op.toNat:Nat):Int)=x.op by omega] at this
 have f1:w.cell? ⟨0,x.op.toNat*2+1,none⟩=some (.string ⟨(letL x.op).toArray⟩):=by
  have:=(ht.2 x.op.toNat (by omega)).2
  rwa [show((x.op.toNat:Nat):Int)=x.op by omega] at this
 have g0:0<w.heap.size:=cell_lt f0;have hk0:(0:Int)≤x.op:=by omega
 have hk1:x.op<25:=by omega
 have QF:=hide (fun c W=>field_any x c W);have LL:=letL_len x.op;have LA:=hide (letL_ascii x.op);have LN:=hide (let_line x h1 h2);have NF:=hide (letN_fit hf);have NL:=name_len x.op;have HT:=hide ht;obtain⟨i0,hi0,hz0,hz1,hz2⟩:=info_parts infoI64;obtain⟨nm,hnm⟩:∃s,s=nameL x.op:=⟨_,rfl⟩;obtain⟨lt,hlt⟩:∃s,s=letL x.op:=⟨_,rfl⟩;have NN:=hide (show letN x=lt.map (fun c=>x.byLet (c.toNat:Int)) by rw[hlt];rfl);rw[←hnm] at f0 LN NL;rw[←hlt] at f1 LL LA;clear hnm hlt ht;go_enter Tryz.func16,Tryz.ntmps16;go_wp2_with fail;obtain⟨WA,hWA⟩:∃W,W=(w.alloc (.cells #[iv x.op,iv x.a,iv x.b,iv x.c,iv x.n] 43)).alloc (.cells #[.string ⟨nm.toArray⟩,.string ⟨lt.toArray⟩] 71):=⟨_,rfl⟩;rw[←hWA];have XA:=hide (show Ext w WA from hWA ▸ ((Ext.refl w).alloc _).alloc _);have sA:WA.heap.size=w.heap.size+1+1:=by rw[hWA];simp
 have CA:=hide (show AkAt WA w.heap.size 0 x∧WA.cell? ⟨w.heap.size+1,0,none⟩=some (.string ⟨nm.toArray⟩) by
  rw[hWA];exact⟨⟨by simp [go_sem],by simp [go_sem],by simp [go_sem],by simp [go_sem],by simp [go_sem]⟩,by simp [go_sem]⟩)
 have IT:=hide (show(WA.iter ⟨lt.toArray⟩ 0).heap[w.heap.size+1+1]?=some (.stringIter ⟨lt.toArray⟩ 0) by
  have:=World.iter_heap WA ⟨lt.toArray⟩ 0
  rwa [sA] at this)
 clear hWA f0 f1 g0;go_loopw [4] (fun v wr=>∃k:Nat,k≤lt.length∧Hid (wr.heap[w.heap.size+1+1]?=some (.stringIter ⟨lt.toArray⟩ k))∧Hid (wr.ownsRow (w.heap.size+1+1+1) 2 1 v ((lt.take k).map (fun c=>x.byLet (c.toNat:Int))).length (((lt.take k).map (fun c=>x.byLet (c.toNat:Int))).flatMap nC))∧Ext WA wr) (fun _ wr=>lt.length-wr.iterPos (w.heap.size+1+1))
 case atStart=>exact⟨0,by omega,unhide IT,World.ownsRow_nil _ _ _ _,(Ext.refl WA).alloc _⟩
 case round=>
  obtain⟨k,hk,hit,hown,hb⟩:=hrel;by_cases hlt:k<lt.length
  ·have hnx:=fun ty=>next_let (unhide hit) hlt (unhide LA) ty
   have TK:=hide (let_take x lt k hlt);have IT2:=hide (Lib.iterAt_heap wr (w.heap.size+1+1) ⟨lt.toArray⟩ k (k+1) (unhide hit));have XB:=hide (show Ext WA (wr.iterAt (w.heap.size+1+1) ⟨lt.toArray⟩ (k+1)) from Lib.below_iterAt hb (k:=w.heap.size+1+1) (by omega) ⟨lt.toArray⟩ (k+1));have O1:=hide (ownsRow_of_block (w':=wr.iterAt (w.heap.size+1+1) ⟨lt.toArray⟩ (k+1)) (unhide hown) (fun q hq=>Lib.iterAt_other wr _ q _ _ (by have:=((unhide hown).lt q hq).1;omega)));obtain⟨W1,hW1⟩:∃W,W=wr.iterAt (w.heap.size+1+1) ⟨lt.toArray⟩ (k+1):=⟨_,rfl⟩;rw[←hW1] at IT2 XB O1;have hnx2:∀ty,(Instr.next (.pointer (some ⟨w.heap.size+1+1,0,none⟩)) true ty).run Tryz.prog wr=.ok (.tuple #[.bool true,.int .i64 k,.int .i32 (lt[k].toNat:Int)]) W1:=fun ty=>hW1 ▸ hnx ty
   clear hnx hW1;have t0:=(unhide XB).keep (unhide CA).1.1;have t1:=(unhide XB).keep (unhide CA).1.2.1;have t2:=(unhide XB).keep (unhide CA).1.2.2.1;have t3:=(unhide XB).keep (unhide CA).1.2.2.2.1;have t4:=(unhide XB).keep (unhide CA).1.2.2.2.2;simp only [Nat.zero_add] at t0 t1 t2 t3 t4;clear hown;go_wp2_with fail;refine(unhide QF _ _).mono ?_;rintro e w2 ⟨rfl,x2⟩;have X2:=hide ((unhide XB).trans x2);have I2:=hide (show w2.heap[w.heap.size+1+1]?=some (.stringIter ⟨lt.toArray⟩ (k+1)) from(x2.block _ (by rcases Array.getElem?_eq_some_iff.1 (unhide IT2) with⟨h,_⟩;exact h)).trans (unhide IT2));have O2:=hide (ownsRow_of_block (unhide O1) (fun q hq=>x2.block q ((unhide O1).lt q hq).2));have sW:w.heap.size+1+1<w2.heap.size:=by rcases Array.getElem?_eq_some_iff.1 (unhide I2) with⟨h,_⟩;exact h
   obtain⟨y,hy⟩:∃y,y=x.byLet (lt[k].toNat:Int):=⟨_,rfl⟩;rw[←hy] at TK ⊢;clear hy;obtain⟨L,hL⟩:∃L,L=(lt.take k).map (fun c=>x.byLet (c.toNat:Int)):=⟨_,rfl⟩;have LE:=hide (show L.length≤4 by rw[hL,List.length_map,List.length_take];omega);rw[←hL] at TK O1 O2;clear hL O1 IT2 XB t0 t1 t2 t3 t4 hnx2;go_wp2_with (at_builtin;refine wpList_append_lies _ rfl _ _ 64 rfl (w.heap.size+1+1+1) 2 i0 (.int .i64 0) 1 8 Tryz.underlying64 hi0 hz0 hz1 hz2 rfl (by decide) _ L.length (L.flatMap nC) rfl ((unhide O2).alloc _) _ 1 1 (nC y) rfl rfl ?c1 ?c2 (by decide) ?c3 ?c4 ?c5 _ rfl ?_)
   case c1=>
    intro q u hk
    match q,hk with
    | 0,hk=>simp [nC] at hk;subst hk;simp [Addr.add,go_sem]
    | q+1,hk=>simp [nC] at hk
   case c2=>intro u hu;simp [nC] at hu;subst hu;rfl
   case c3=>have:=unhide LE;unfold maxLen;omega
   case c4=>have:=unhide LE;omega
   case c5=>simp;omega
   intro g cap' w3 hown3 hgrow hat hglt
   have R:=hide (show w3.ownsRow (w.heap.size+1+1+1) 2 1 (.slice (some ⟨g,0,none⟩) (L.length+1) cap') ((lt.take (k+1)).map (fun c=>x.byLet (c.toNat:Int))).length (((lt.take (k+1)).map (fun c=>x.byLet (c.toNat:Int))).flatMap nC) by
    rw[unhide TK,List.flatMap_append]
    simpa using hown3)
   have X3:=hide (grown_ext ((unhide X2).alloc _) ((unhide O2).alloc _) (by omega) hgrow);have I3:=hide (show w3.heap[w.heap.size+1+1]?=some (.stringIter ⟨lt.toArray⟩ (k+1)) from(hgrow.block _ (by simp;omega) (fun e=>by have:=(((unhide O2).alloc (.cells #[iv y] 2)).lt _ e.symm).1;omega)).trans ((Lib.alloc_old _ _ _ sW).trans (unhide I2)));clear hown3 hgrow hat;go_wp2_with fail;go_roundw
   case rel=>exact⟨k+1,by omega,unhide I3,unhide R,unhide X3⟩
   case measure=>simp only [World.iterPos,unhide I3,unhide hit];omega
  ·have hnx:=fun ty=>next_end (unhide hit) hlt ty
   have e:k=lt.length:=by omega
   subst e;have R:=unhide hown;rw[List.take_length,←unhide NN] at R;have S:=own_nums R (by rw[unhide NN,List.length_map];omega);have QL:=hide (lineOf_any nm (letN x) u4 wr S (unhide NF) (by omega) (by rw[unhide NN,List.length_map];exact LL) ((unhide HT).1.ext ((unhide XA).trans hb)));obtain⟨ad,cap,rfl⟩:∃ad cap,u4=.slice ad (letN x).length cap:=let ⟨a,c,e,_⟩:=S;⟨a,c,e⟩;have t5:=hb.keep (unhide CA).2;clear hown R S hit;go_wp2_with fail;refine(unhide QL).mono ?_;rintro e w2 ⟨rfl,x2⟩;go_wp2_with fail;go_ret;exact⟨by rw[←unhide LN,List.append_assoc];rfl,((unhide XA).trans hb).trans x2⟩
theorem implActOk_r(y:Ak)(r:Bool)(h:okA y=r)(w:World):Calls Tryz.prog 15 #[y.v] w fun e w'=>e=.returned (.bool r)∧Ext w w':=h ▸ implActOk_any y.op y.a y.b y.c y.n w
end Go.Proofs.YtnegjhddmfiefaaGreatDoor
