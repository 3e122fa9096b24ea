import Derived.Test.YtnegjhddmfiefaaGreatDoorXg0
set_option maxRecDepth 100000
set_option maxHeartbeats 1000000
namespace Go.Proofs.YtnegjhddmfiefaaGreatDoor
open Go.RowKit
attribute [local go_sem ↓] Go.wp_at_zero Go.wp_at_succ
def playB(room:Int)(n:Nat):Bool:=withinB room 1 4000 && decide ((n:Int)≤1000)
theorem playable_any(room:Int)(ad:Option Addr)(n cap:Nat)(w:World):Calls Tryz.prog 12 #[.int .i64 room,.slice ad n cap] w fun e w'=>e=.returned (.bool (playB room n))∧w'=w:=by
 cases q:withinB room 1 4000
 ·have QW:=hide (fun W=>q ▸ within_any room 1 4000 W);go_enter Tryz.func12,Tryz.ntmps12;go_wp2_with (go_at_call 32;refine(unhide QW _).mono ?_;rintro e w2 ⟨rfl,rfl⟩);go_ret;exact⟨by unfold playB;rw[q];rfl,rfl⟩
 ·have QW:=hide (fun W=>q ▸ within_any room 1 4000 W);go_enter Tryz.func12,Tryz.ntmps12;go_wp2_with (go_at_call 32;refine(unhide QW _).mono ?_;rintro e w2 ⟨rfl,rfl⟩);go_ret;exact⟨by unfold playB;rw[q];rfl,rfl⟩
theorem builder_ext{T e:TypeId}{B b:Nat}{bs:List Value}{w w':World}(h:Lib.IsBuilderF T e B b bs w)(x:Ext w w'):Lib.IsBuilderF T e B b bs w':=by
 have key:∀p,Lib.BuilderAtF T e B b p bs w→Lib.BuilderAtF T e B b p bs w':=by
  rintro p ⟨hB,v,hb,hown,hne⟩;have hlt:b<w.heap.size:=(Array.getElem?_eq_some_iff.1 hb).1;refine⟨hB,v,(x.block b hlt).trans hb,⟨hown.1,?_⟩,hne⟩;rcases hown.2 with hn | ⟨g,cap,cur,fz,rfl,hb1,hgg,rest⟩
  ·exact .inl hn
  ·exact .inr ⟨g,cap,cur,fz,rfl,hb1,(x.block g (Array.getElem?_eq_some_iff.1 hgg).1).trans hgg,rest⟩
 exact h.elim (fun y=>.inl (key _ y)) (fun y=>.inr (key _ y))
theorem room_word(room:Int):[114,111,111,109]++numsT [room]++[10]=roomL room:=by simp [numsT,roomL]
theorem builder_put{T e:TypeId}{B b:Nat}{l m:List UInt8}{s:ByteArray}{w:World}(hs:s=⟨m.toArray⟩)(h:Lib.BuilderAtF T e B b (.pointer (some ⟨b,0,none⟩)) (Lib.byteCells l++Lib.strCells s) w):Lib.IsBuilderF T e B b (Lib.byteCells (l++m)) w:=by
 rw[strCells_of hs,←Lib.byteCells_append] at h;exact .inr h
theorem implWrite_any(room:Int)(xs:List Ak)(v:Value)(w:World)(hr0:-9223372036854775808≤room)(hr1:room≤9223372036854775807)(h:SlA w v xs)(hf:∀x∈xs,x.Fit)(hn:xs.length≤1048576)(ht:Tab w):
  Calls Tryz.prog 5 #[.int .i64 room,v] w fun e w'=>e=.returned (.string ⟨(writeL room xs).toArray⟩)∧Ext w w':=by
 obtain⟨ad,cap,rfl,_,hx⟩:=h;have HX:=hide hx;clear hx;cases q1:playB room xs.length
 ·have QI:=hide (fun W=>q1 ▸ playable_any room ad xs.length cap W)
  have E:=hide (write_no (room:=room) (xs:=xs) (by
   unfold playB at q1;rw[Bool.and_eq_false_iff] at q1;rcases q1 with q1 | q1
   ·exact .inl q1
   ·exact .inr (.inl (by simp at q1;omega))))
  go_enter Tryz.func5,Tryz.ntmps5;go_wp2_with (go_at_call 12;refine(unhide QI _).mono ?_;rintro e w2 ⟨rfl,rfl⟩);go_ret;exact⟨by rw[unhide E];rfl,Ext.refl _⟩
 ·have QI:=hide (fun W=>q1 ▸ playable_any room ad xs.length cap W)
  have q2:l1inB room 1 4000=true∧xs.length≤1000:=by
   unfold playB at q1;rw[Bool.and_eq_true] at q1;exact⟨q1.1,by have:=of_decide_eq_true q1.2;omega⟩
  have TL:=hide (fun k=>text_len room hr0 hr1 (xs.take k) (fun x hx=>hf x (List.mem_of_mem_take hx)));have TK:=hide (fun k hk=>text_take room xs k hk);have YES:=hide (fun h3 h4=>write_yes (room:=room) (xs:=xs) q2.1 q2.2 h3 h4);have N3:=hide (fun h=>write_no (room:=room) (xs:=xs) (.inr (.inr (.inl h))));have N4:=hide (fun h=>write_no (room:=room) (xs:=xs) (.inr (.inr (.inr h))));have FT:=hide hf;have q3:=q2.2;have HT:=hide ht;clear hf q2 ht;go_enter Tryz.func5,Tryz.ntmps5;go_wp2_with (go_at_call 12;refine(unhide QI _).mono ?_;rintro e w2 ⟨rfl,rfl⟩);have IB:=hide (((Lib.IsBuilderF.of (Lib.fresh_isBuilder 36 5 w2)).alloc (.cells #[.int .i64 room] 2)));have XB:=hide (show Ext w2 ((w2.alloc (.cells #[.pointer none,.slice none 0 0] 36)).alloc (.cells #[.int .i64 room] 2)) from((Ext.refl w2).alloc _).alloc _)
  have QL:=hide (lineOf_any [114,111,111,109] [room] (.slice (some ⟨w2.heap.size+1,0,none⟩) 1 1) ((w2.alloc (.cells #[.pointer none,.slice none 0 0] 36)).alloc (.cells #[.int .i64 room] 2))
   ⟨_,_,rfl,by simp,fun i hi=>⟨w2.heap.size+1,0,rfl,by
    have:i=0:=by simp at hi;omega
    subst this;simp [InAt,go_sem]⟩⟩
   (fun n hn=>by rw[List.mem_singleton.1 hn];exact⟨hr0,hr1⟩) (by simp) (by simp) ((unhide HT).1.ext (unhide XB)))
  have RLN:=hide (room_len room hr0 hr1);refine(unhide QL).mono ?_;rintro e w3 ⟨rfl,x3⟩;rw[room_word];have I3:=hide (builder_ext (unhide IB) x3);have X3:=hide ((unhide XB).trans x3);clear IB XB QL x3;go_wp2_with (go_at_call 13;refine(Tryz.Builder_WriteString_k w2.heap.size w2.heap.size _ _ _ (unhide I3) ?c1 (unhide X3).size).mono ?_)
  case c1=>rw[size_of rfl];have:=unhide RLN;simp;omega
  rintro e w4 ⟨rfl,b4,x4,_⟩
  have I4:=hide (show Lib.IsBuilderF 36 5 w2.heap.size w2.heap.size (Lib.byteCells (textL room (xs.take 0))) w4 by
   have:=builder_put (l:=[]) (m:=roomL room) rfl b4
   rwa [text_zero])
  have X4:=hide (show Ext w2 w4 from Below.trans (unhide X3) x4);clear I3 X3 b4 x4;go_wp2_with fail;go_loopw [18] (fun i wr=>∃k:Nat,k≤xs.length∧i=.int .i64 k∧Hid (∀x∈xs.take k,okA x=true)∧Hid (Lib.IsBuilderF 36 5 w2.heap.size w2.heap.size (Lib.byteCells (textL room (xs.take k))) wr)∧Ext w2 wr) (fun i _=>xs.length-(intOf i).toNat)
  case atStart=>exact⟨0,Nat.zero_le _,rfl,hide (by simp),unhide I4,unhide X4⟩
  case round=>
   obtain⟨k,hk,rfl,hall,hib,hbl⟩:=hrel;by_cases hlt:k<xs.length
   ·obtain⟨b,o,rfl,p0,p1,p2,p3,p4⟩:=unhide HX k hlt;have e0:=hbl.keep p0;have e1:=hbl.keep p1;have e2:=hbl.keep p2;have e3:=hbl.keep p3;have e4:=hbl.keep p4;clear p0 p1 p2 p3 p4;have hb':b<wr.heap.size:=cell_lt e0;have hk0:(0:Int)≤(k:Int):=by omega
    have hk1:(k:Int)<(xs.length:Int):=by omega
    have FX:=hide (unhide FT xs[k] (List.getElem_mem hlt));have NX:=hide (unhide TK k hlt);have TLk:=hide (unhide TL k);have AT:=hide (fun h=>all_take xs k hlt h)
    have AY:=hide (show okA xs[k]=true→∀x∈xs.take (k+1),okA x=true from fun hy x hx=>by
     rw[List.take_succ_eq_append_getElem hlt,List.mem_append] at hx;rcases hx with hx | hx
     ·exact unhide hall x hx
     ·rw[List.mem_singleton.1 hx];exact hy)
    obtain⟨y,hy⟩:∃y,y=xs[k]:=⟨_,rfl⟩;rw[←hy] at e0 e1 e2 e3 e4 FX NX AT AY;clear hy;have xa:=(Ext.refl wr).alloc (.cells #[iv y.op,iv y.a,iv y.b,iv y.c,iv y.n] 43);cases q4:okA y
    ·have QO:=hide (fun W=>implActOk_r y false q4 W);have E:=hide (unhide N3 (unhide AT q4));go_wp2_with fail;refine(unhide QO _).mono ?_;rintro e w5 ⟨rfl,x5⟩;go_wp2_with fail;go_ret;exact⟨by rw[unhide E];rfl,(hbl.trans xa).trans x5⟩
    ·have QO:=hide (fun W=>implActOk_r y true q4 W);have OP:=hide (okA_op q4);have b2:=line_len (unhide FX);go_wp2_with fail;refine(unhide QO _).mono ?_;rintro e w5 ⟨rfl,x5⟩;have t0:w5.cell? ⟨wr.heap.size,0,none⟩=some (iv y.op):=x5.keep (by simp [go_sem]);have t1:w5.cell? ⟨wr.heap.size,1,none⟩=some (iv y.a):=x5.keep (by simp [go_sem]);have t2:w5.cell? ⟨wr.heap.size,2,none⟩=some (iv y.b):=x5.keep (by simp [go_sem]);have t3:w5.cell? ⟨wr.heap.size,3,none⟩=some (iv y.c):=x5.keep (by simp [go_sem]);have t4:w5.cell? ⟨wr.heap.size,4,none⟩=some (iv y.n):=x5.keep (by simp [go_sem]);have X5:=hide (hbl.trans (xa.trans x5));have I5:=hide (builder_ext (unhide hib) (xa.trans x5));have QL:=hide (actLine_any y (unhide OP).1 (unhide OP).2 (unhide FX) w5 ((unhide HT).ext (unhide X5)));clear x5;go_wp2_with fail;refine(unhide QL).mono ?_;rintro e w6 ⟨rfl,x6⟩;have X6:=hide ((unhide X5).trans x6);have I6:=hide (builder_ext (unhide I5) x6);clear x6 t0 t1 t2 t3 t4;go_wp2_with (go_at_call 13;refine(Tryz.Builder_WriteString_k w2.heap.size w2.heap.size _ _ _ (unhide I6) ?c1 (unhide X6).size).mono ?_)
     case c1=>rw[size_of rfl,Lib.byteCells_length];have:=unhide TLk;simp at this ⊢;omega
     rintro e w7 ⟨rfl,b7,x7,_⟩
     have I7:=hide (show Lib.IsBuilderF 36 5 w2.heap.size w2.heap.size (Lib.byteCells (textL room (xs.take (k+1)))) w7 by
      rw[unhide NX];exact builder_put rfl b7)
     have X7:=hide (show Ext w2 w7 from Below.trans (unhide X6) x7);clear b7 x7 I6 X6 I5 X5;go_wp2_with fail;go_roundw
     case rel=>exact⟨k+1,by omega,by go_num,unhide AY q4,unhide I7,unhide X7⟩
     case measure=>simp [intOf];omega
   ·have e:k=xs.length:=by omega
    subst e;have R:=hib;rw[List.take_length] at R;have ALL:=hide (show xs.all okA=true from List.all_eq_true.2 (fun x hx=>unhide hall x (by rw[List.take_length];exact hx)));have QN:=hide (Tryz.Builder_Len_f w2.heap.size w2.heap.size _ wr (unhide R));rw[Lib.byteCells_length] at QN;by_cases q5:20000<(textL room xs).length
    ·have E:=hide (unhide N4 q5);go_wp2_with (go_at_call 17;refine(unhide QN).mono ?_;rintro e w5 ⟨rfl,rfl⟩);go_ret;exact⟨by rw[unhide E];rfl,hbl⟩
    ·have E:=hide (unhide YES (unhide ALL) (by omega));go_wp2_with (first | (go_at_call 17;refine(unhide QN).mono ?_;rintro e w5 ⟨rfl,rfl⟩) | (go_at_call 18;refine(Tryz.Builder_String_any_k w2.heap.size w2.heap.size _ _ (unhide R) hbl.size).mono ?_;rintro e w6 ⟨rfl,_,x6,_⟩));go_ret;exact⟨by rw[unhide E];rfl,Below.trans hbl x6⟩
end Go.Proofs.YtnegjhddmfiefaaGreatDoor
