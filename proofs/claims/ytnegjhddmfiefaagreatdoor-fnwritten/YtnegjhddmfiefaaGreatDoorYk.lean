import Derived.Test.YtnegjhddmfiefaaGreatDoorYg
import Derived.Lib.ParseIntB
import Derived.Lib.Split
import Derived.Shelf.Strconv.ParseIntPublic10
set_option maxRecDepth 100000
set_option maxHeartbeats 3000000
namespace Go.Proofs.YtnegjhddmfiefaaGreatDoor
open Go.RowKit
attribute [local go_sem ↓] Go.wp_at_zero Go.wp_at_succ
theorem own_mono{w:World}{B B':Nat}{e:TypeId}{s n:Nat}{v:Value}{xs:List Value}(h:w.ownsRow B e s v n xs)(hb:B'≤B):w.ownsRow B' e s v n xs:=by
 refine⟨h.1,?_⟩;rcases h.2 with hn | ⟨g,cap,cur,rfl,hg,rest⟩
 ·exact .inl hn
 ·exact .inr ⟨g,cap,cur,rfl,Nat.le_trans hb hg,rest⟩
theorem cutN_seg(a b:List UInt8)(h:∀c∈a,c≠10):cutN (a++10::b)=some (a,b):=by
 induction a with
 | nil=>simp [cutN]
 | cons c r ih=>
  have h1:=ih (fun x hx=>h x (List.mem_cons_of_mem _ hx));have h2:=h c (List.mem_cons_self ..);rw[List.cons_append];simp [cutN,h2,h1]
theorem cutN_none(a:List UInt8)(h:∀c∈a,c≠10):cutN a=none:=by
 induction a with
 | nil=>rfl
 | cons c r ih=>
  have h1:=ih (fun x hx=>h x (List.mem_cons_of_mem _ hx));have h2:=h c (List.mem_cons_self ..);simp [cutN,h2,h1]
def NlI(tx:List UInt8)(a e:Nat):Prop:=a≤e∧e≤tx.length∧∀c∈(tx.take e).drop a,c≠10
theorem NlI.start{tx:List UInt8}{a:Nat}(h:a≤tx.length):NlI tx a a:=⟨Nat.le_refl _,h,by
 have:(tx.take a).drop a=[]:=List.drop_eq_nil_of_le (by simp;omega);rw[this];simp⟩
theorem NlI.on{tx:List UInt8}{a e:Nat}(h:NlI tx a e)(he:e<tx.length)(hc:tx[e]≠10):NlI tx a (e+1):=by
 refine⟨by have:=h.1;omega,by omega,fun c hx=>?_⟩;rw[take_drop_succ tx e a he h.1] at hx;rcases List.mem_append.1 hx with hx | hx
 ·exact h.2.2 c hx
 ·rw[List.mem_singleton.1 hx];exact hc
theorem NlI.hit{tx:List UInt8}{a e:Nat}(h:NlI tx a e)(he:e<tx.length)(hc:tx[e]=10):cutN (tx.drop a)=some ((tx.take e).drop a,tx.drop (e+1)):=by
 rw[seg_split tx e a he h.1,hc];exact cutN_seg _ _ h.2.2
theorem NlI.miss{tx:List UInt8}{a:Nat}(h:NlI tx a tx.length):cutN (tx.drop a)=none:=by
 have:=h.2.2;rw[List.take_length] at this;exact cutN_none _ this
def RdI(tx:List UInt8)(n a:Nat)(room:Int)(acc:List Ak):Prop:=a≤tx.length∧((n=0∧a=0∧acc=[]∧room=0)∨(1≤n∧∃fuel,(tx.drop a).length≤fuel∧rdActs room fuel n acc (tx.drop a)=rdText tx))∧acc.length≤1000∧n≤a
theorem RdI.start(tx:List UInt8):RdI tx 0 0 0 []:=⟨Nat.zero_le _,.inl ⟨rfl,rfl,rfl,rfl⟩,by simp,Nat.le_refl _⟩
theorem RdI.cut{tx:List UInt8}{n a:Nat}{room:Int}{acc:List Ak}(hl:tx.length≤20000)(h:RdI tx n a room acc)(ha:a<tx.length∨n=0)(hc:cutN (tx.drop a)=none):rdText tx=.bad (n+1):=by
 rcases h.2.1 with⟨rfl,rfl,_,_⟩ | ⟨h1,fuel,hf,hr⟩
 ·rw[List.drop_zero] at hc;unfold rdText;rw[if_neg (by omega),hc]
 ·rw[←hr];refine rdActs_cut hf (fun e=>?_) hc;have:=congrArg List.length e;rcases ha with ha | ha
  ·simp at this;omega
  ·omega
theorem RdI.room{tx line rest:List UInt8}{a:Nat}{room:Int}{acc:List Ak}(hl:tx.length≤20000)(h:RdI tx 0 a room acc)(hc:cutN (tx.drop a)=some (line,rest)):acc=[]∧room=0∧(roomO line=none→rdText tx=.bad 1)∧∀r,roomO line=some r→rdText tx=rdActs r rest.length 1 [] rest:=by
 rcases h.2.1 with⟨_,rfl,h3,h4⟩ | ⟨h1,_⟩
 ·rw[List.drop_zero] at hc;refine⟨h3,h4,fun hr=>?_,fun r hr=>?_⟩
  ·unfold rdText;rw[if_neg (by omega),hc];simp only [hr]
  ·unfold rdText;rw[if_neg (by omega),hc];simp only [hr]
 ·omega
theorem RdI.done{tx:List UInt8}{n a:Nat}{room:Int}{acc:List Ak}(h:RdI tx n a room acc)(h1:1≤n)(h2:tx.length≤a):rdText tx=.good room acc:=by
 rcases h.2.1 with⟨rfl,_⟩ | ⟨_,fuel,_,hr⟩
 ·omega
 ·rw[←hr];have e:tx.drop a=[]:=List.drop_eq_nil_of_le h2;rw[e,rdActs_end]
theorem RdI.roomed{tx rest:List UInt8}{e:Nat}{r:Int}(he:e<tx.length)(hr:tx.drop (e+1)=rest)(hd:rdText tx=rdActs r rest.length 1 [] rest):RdI tx 1 (e+1) r []:=
 ⟨by omega,.inr ⟨Nat.le_refl _,rest.length,by rw[hr];exact Nat.le_refl _,by rw[hr,hd]⟩,by simp,by omega⟩
theorem RdI.act{tx line:List UInt8}{n a e:Nat}{room:Int}{acc:List Ak}{y:Ak}(h:RdI tx n a room acc)(hn:1≤n)(hae:a≤e)(he:e<tx.length)(hc:cutN (tx.drop a)=some (line,tx.drop (e+1)))(h2:acc.length<1000)(hy:actO line=some y):RdI tx (n+1) (e+1) room (acc++[y]):=by
 rcases h.2.1 with⟨h0,_⟩ | ⟨_,fuel,hf,hr⟩
 ·omega
 ·refine⟨by omega,.inr ⟨by omega,fuel-1,?_,?_⟩,by simp;omega,by have:=h.2.2.2;omega⟩
  ·have:=cutN_len hc;omega
  ·rw[←hr,rdActs_step hf hc h2 hy]
theorem RdI.bad{tx line rest:List UInt8}{n a:Nat}{room:Int}{acc:List Ak}(h:RdI tx n a room acc)(hn:1≤n)(hc:cutN (tx.drop a)=some (line,rest))(hb:acc.length<1000→actO line=none):rdText tx=.bad (n+1):=by
 rcases h.2.1 with⟨h0,_⟩ | ⟨_,fuel,hf,hr⟩
 ·omega
 ·rw[←hr];by_cases h2:acc.length<1000
  ·exact rdActs_no hf hc (hb h2)
  ·exact rdActs_many hf hc h2
def ScrAt(W:World)(b:Nat)(room:Int)(v:Value):Prop:=W.cell? ⟨b,0,none⟩=some (.bool true)∧W.cell? ⟨b,1,none⟩=some (.int .i64 0)∧W.cell? ⟨b,2,none⟩=some (iv room)∧W.cell? ⟨b,3,none⟩=some v∧W.frozen? ⟨b,2,none⟩=false∧W.frozen? ⟨b,3,none⟩=false
theorem ScrAt.of_block{W W':World}{b:Nat}{room:Int}{v:Value}(h:ScrAt W b room v)(e:W'.heap[b]?=W.heap[b]?):ScrAt W' b room v:=by
 have c:∀o,W'.cell? ⟨b,o,none⟩=W.cell? ⟨b,o,none⟩:=fun o=>World.cell?_of_block (a:=⟨b,o,none⟩) e
 have f:∀o,W'.frozen? ⟨b,o,none⟩=W.frozen? ⟨b,o,none⟩:=fun o=>by unfold World.frozen?;rw[e]
 exact⟨(c 0).trans h.1,(c 1).trans h.2.1,(c 2).trans h.2.2.1,(c 3).trans h.2.2.2.1,(f 2).trans h.2.2.2.2.1,(f 3).trans h.2.2.2.2.2⟩
theorem ScrAt.ext{W W':World}{b:Nat}{room:Int}{v:Value}(h:ScrAt W b room v)(x:Ext W W'):ScrAt W' b room v:=h.of_block (x.block b (cell_lt h.1))
theorem ScrAt.putRoom{W:World}{b:Nat}{room:Int}{v:Value}(h:ScrAt W b room v)(r:Int):ScrAt (W.setCell ⟨b,2,none⟩ (iv r)) b r v:=by
 have o2:Open W b 2:=⟨⟨_,h.2.2.1⟩,h.2.2.2.2.1⟩;have o3:Open W b 3:=⟨⟨_,h.2.2.2.1⟩,h.2.2.2.2.2⟩;exact⟨by rw[cell_other _ (.inr (by omega))];exact h.1,by rw[cell_other _ (.inr (by omega))];exact h.2.1,o2.same _,by rw[cell_other _ (.inr (by omega))];exact h.2.2.2.1,(o2.set _ _).2,(o3.set _ _).2⟩
theorem ScrAt.putActs{W:World}{b:Nat}{room:Int}{v:Value}(h:ScrAt W b room v)(u:Value):ScrAt (W.setCell ⟨b,3,none⟩ u) b room u:=by
 have o2:Open W b 2:=⟨⟨_,h.2.2.1⟩,h.2.2.2.2.1⟩;have o3:Open W b 3:=⟨⟨_,h.2.2.2.1⟩,h.2.2.2.2.2⟩;exact⟨by rw[cell_other _ (.inr (by omega))];exact h.1,by rw[cell_other _ (.inr (by omega))];exact h.2.1,by rw[cell_other _ (.inr (by omega))];exact h.2.2.1,o3.same _,(o2.set _ _).2,(o3.set _ _).2⟩
theorem ext4{w W:World}(h:Ext w W)(a b c d:Value):Ext w ((((W.setCell ⟨w.heap.size,0,none⟩ a).setCell ⟨w.heap.size,1,none⟩ b).setCell ⟨w.heap.size,2,none⟩ c).setCell ⟨w.heap.size,3,none⟩ d):=
 (((h.setCell (p:=⟨w.heap.size,0,none⟩) (Nat.le_refl _) a).setCell (p:=⟨w.heap.size,1,none⟩) (Nat.le_refl _) b).setCell (p:=⟨w.heap.size,2,none⟩) (Nat.le_refl _) c).setCell (p:=⟨w.heap.size,3,none⟩) (Nat.le_refl _) d
def set5(W:World)(b:Nat)(y:Ak):World:=((((W.setCell ⟨b,0,none⟩ (iv y.op)).setCell ⟨b,1,none⟩ (iv y.a)).setCell ⟨b,2,none⟩ (iv y.b)).setCell ⟨b,3,none⟩ (iv y.c)).setCell ⟨b,4,none⟩ (iv y.n)
theorem set5_block(W:World)(b:Nat)(y:Ak)(q:Nat)(h:q≠b):(set5 W b y).heap[q]?=W.heap[q]?:=by
 unfold set5;rw[Below.heap_setCell _ _ _ _ h,Below.heap_setCell _ _ _ _ h,Below.heap_setCell _ _ _ _ h,Below.heap_setCell _ _ _ _ h,Below.heap_setCell _ _ _ _ h]
theorem open_of_block{W W':World}{b o:Nat}(h:Open W b o)(e:W'.heap[b]?=W.heap[b]?):Open W' b o:=by
 obtain⟨⟨v,hv⟩,hf⟩:=h;exact⟨⟨v,(World.cell?_of_block (a:=⟨b,o,none⟩) e).trans hv⟩,by unfold World.frozen? at hf ⊢;rw[e];exact hf⟩
theorem rd_long{tx:List UInt8}(h:20000<tx.length):rdText tx=.bad 0:=by unfold rdText;rw[if_pos h]
theorem specRead_nil(w:World):Calls Tryz.prog 10 #[.string (sB [])] w fun e w'=>∃v,Hid (e=.returned ((rdText []).v v))∧Hid (w'.ownsRow w.heap.size 43 5 v (rdText []).acts.length ((rdText []).acts.flatMap fA))∧Ext w w':=by
 go_enter Tryz.func10,Tryz.ntmps10;go_wp2_with fail;go_loopw [4,5] (fun nn aa wr=>nn=.int .i64 0∧aa=.int .i64 0∧Hid (∀j,j<4→Open wr w.heap.size j)∧Ext w wr) (fun _ _ _=>0)
 case atStart=>
  refine⟨rfl,rfl,hide (fun j hj=>?_),((Ext.refl w).alloc _).alloc _⟩
  match j,hj with
  | 0,_=>exact⟨⟨.bool false,by simp [go_sem]⟩,by simp [go_sem]⟩
  | 1,_=>exact⟨⟨.int .i64 0,by simp [go_sem]⟩,by simp [go_sem]⟩
  | 2,_=>exact⟨⟨.int .i64 0,by simp [go_sem]⟩,by simp [go_sem]⟩
  | 3,_=>exact⟨⟨.slice none 0 0,by simp [go_sem]⟩,by simp [go_sem]⟩
 case round=>
  obtain⟨rfl,rfl,hop,hbl⟩:=hrel;go_wp2_with fail;obtain⟨WO,hWO⟩:∃W,W=wr:=⟨_,rfl⟩;subst hWO;go_loopw [6] (fun ee wr=>ee=.int .i64 0∧wr=WO) (fun _ _=>0)
  case atStart=>exact⟨rfl,rfl⟩
  case round=>
   obtain⟨rfl,rfl⟩:=hrel;obtain⟨⟨o0,r0⟩,f0⟩:=unhide hop 0 (by omega);obtain⟨⟨o1,r1⟩,f1⟩:=unhide hop 1 (by omega);obtain⟨⟨o2,r2⟩,f2⟩:=unhide hop 2 (by omega);obtain⟨⟨o3,r3⟩,f3⟩:=unhide hop 3 (by omega);go_wp2_with fail;refine bodyPost_ret (v:=.agg #[.bool false,.int .i64 1,.int .i64 0,.slice none 0 0]) (by simp [results,Tryz.results10,go_sem,r0,r1,r2,r3]) rfl ?_;exact⟨.slice none 0 0,hide rfl,hide (World.ownsRow_nil _ _ _ _),ext4 hbl _ _ _ _⟩
theorem specRead_any(tx:List UInt8)(hl:tx.length≤1048576)(w:World):Calls Tryz.prog 10 #[.string (sB tx)] w fun e w'=>∃v,Hid (e=.returned ((rdText tx).v v))∧Hid (w'.ownsRow w.heap.size 43 5 v (rdText tx).acts.length ((rdText tx).acts.flatMap fA))∧Ext w w':=by
 by_cases h0:20000<tx.length
 ·have E:=hide (rd_long h0);go_enter Tryz.func10,Tryz.ntmps10;go_wp2_with fail;refine bodyPost_ret (v:=.agg #[.bool false,.int .i64 0,.int .i64 0,.slice none 0 0]) (by simp [results,Tryz.results10,go_sem]) rfl ?_;exact⟨.slice none 0 0,hide (by rw[unhide E];rfl),hide (by rw[unhide E];exact World.ownsRow_nil _ _ _ _),(Ext.refl w).alloc _⟩
 ·by_cases hne:tx=[]
  ·subst hne;exact specRead_nil w
  obtain⟨i0,hi0,hz0,hz1,hz2⟩:=info_parts infoActs;go_enter Tryz.func10,Tryz.ntmps10;go_wp2_with fail;go_loopw [4,5] (fun nn aa wr=>∃(n a:Nat) (room:Int) (acc:List Ak) (v:Value),nn=.int .i64 n∧aa=.int .i64 a∧Hid (RdI tx n a room acc)∧Hid (ScrAt wr (w.heap.size+1) room v)∧Hid (wr.ownsRow (w.heap.size+2) 43 5 v acc.length (acc.flatMap fA))∧Hid (∀j,j<4→Open wr w.heap.size j)∧Ext w wr) (fun _ aa _=>tx.length+1-(intOf aa).toNat)
  case atStart=>
   refine⟨0,0,0,[],.slice none 0 0,rfl,rfl,RdI.start tx,hide ⟨by simp [go_sem],by simp [go_sem],by simp [go_sem],by simp [go_sem],by simp [go_sem],by simp [go_sem]⟩,World.ownsRow_nil _ _ _ _,hide (fun j hj=>?_),((Ext.refl w).alloc _).alloc _⟩
   match j,hj with
   | 0,_=>exact⟨⟨.bool false,by simp [go_sem]⟩,by simp [go_sem]⟩
   | 1,_=>exact⟨⟨.int .i64 0,by simp [go_sem]⟩,by simp [go_sem]⟩
   | 2,_=>exact⟨⟨.int .i64 0,by simp [go_sem]⟩,by simp [go_sem]⟩
   | 3,_=>exact⟨⟨.slice none 0 0,by simp [go_sem]⟩,by simp [go_sem]⟩
  case round=>
   obtain⟨n,a,room,acc,v,rfl,rfl,hri,hsc,hown,hop,hbl⟩:=hrel
   obtain⟨ad,cap,hv⟩:∃ad cap,v=.slice ad acc.length cap:=by
    rcases (unhide hown).2 with⟨h1,h2⟩ | ⟨g,cap,_,h1,_⟩
    ·exact⟨none,0,by rw[h1,h2]⟩
    ·exact⟨_,_,h1⟩
   subst hv;have nb:n≤20000:=by have:=(unhide hri).2.2.2;have:=(unhide hri).1;omega
   have al:=(unhide hri).2.2.1;by_cases ha:a<tx.length;rotate_left
   ·have n1:1≤n:=by
     rcases (unhide hri).2.1 with⟨rfl,rfl,_⟩ | ⟨h,_⟩
     ·exact absurd hne (by simpa using ha)
     ·exact h
    have E:=hide ((unhide hri).done n1 (by omega));have q1:((n:Int) == 0)=false:=by simp;omega
    obtain⟨s0,s1,s2,s3,_,_⟩:=unhide hsc;obtain⟨⟨o0,r0⟩,f0⟩:=unhide hop 0 (by omega);obtain⟨⟨o1,r1⟩,f1⟩:=unhide hop 1 (by omega);obtain⟨⟨o2,r2⟩,f2⟩:=unhide hop 2 (by omega);obtain⟨⟨o3,r3⟩,f3⟩:=unhide hop 3 (by omega);go_wp2_with fail;refine bodyPost_ret (v:=.agg #[.bool true,.int .i64 0,.int .i64 room,.slice ad acc.length cap]) (by simp [results,Tryz.results10,go_sem,r0,r1,r2,r3]) rfl ?_;refine⟨.slice ad acc.length cap,hide (by rw[unhide E];rfl),hide ?_,ext4 hbl _ _ _ _⟩;rw[unhide E]
    exact own_mono (ownsRow_of_block (unhide hown) (fun q hq=>by
     have:=((unhide hown).lt q hq).1;rw[Below.heap_setCell _ _ _ _ (fun e=>by simp only at e;omega),Below.heap_setCell _ _ _ _ (fun e=>by simp only at e;omega),Below.heap_setCell _ _ _ _ (fun e=>by simp only at e;omega),Below.heap_setCell _ _ _ _ (fun e=>by simp only at e;omega)])) (by omega)
   ·go_wp2_with fail;obtain⟨WO,hWO⟩:∃W,W=wr:=⟨_,rfl⟩;subst hWO;go_loopw [6] (fun ee wr=>∃e:Nat,ee=.int .i64 e∧Hid (NlI tx a e)∧e≤tx.length∧wr=WO) (fun ee _=>tx.length-(intOf ee).toNat)
    case atStart=>exact⟨a,rfl,NlI.start (by omega),by omega,rfl⟩
    case round=>
     obtain⟨e,rfl,hnl,he,rfl⟩:=hrel;by_cases hlt:e<tx.length
     ·have hs:e<(sB tx).size:=by simpa [ByteArray.size] using hlt
      cases q:((((sB tx)[e]'hs).toNat:Int) == 10)
      ·have q2:((((sB tx)[e]'hs).toNat:Int) != 10)=true:=by simp [bne,q]
       have NX:=hide ((unhide hnl).on hlt (by
        intro e1;have e2:((sB tx)[e]'hs).toNat=10:=by rw[lt_get tx e hlt hs,e1];rfl
        rw[e2] at q;simp at q))
       go_wp2_with fail;go_roundw
       case rel=>exact⟨e+1,by go_num,unhide NX,by omega,trivial⟩
       case measure=>simp [intOf];omega
      ·have q2:((((sB tx)[e]'hs).toNat:Int) != 10)=false:=by simp [bne,q]
       have HIT:=hide ((unhide hnl).hit hlt (by
        have e2:((sB tx)[e]'hs).toNat=10:=by simp at q;omega
        rw[lt_get tx e hlt hs] at e2;exact UInt8.toNat_inj.1 e2))
       have qe:((e:Int) == (tx.length:Int))=false:=by simp;omega
       have ae:a≤e:=(unhide hnl).1;have LB:=hide (show((tx.take e).drop a).length≤20000 by rw[List.length_drop,List.length_take];omega);obtain⟨s0,s1,s2,s3,z2,z3⟩:=unhide hsc;obtain⟨line,hline⟩:∃x,x=(tx.take e).drop a:=⟨_,rfl⟩;have SUB:=hide (show(sB tx).extract a e=sB line by rw[hline];exact sub_str tx a e);rw[←hline] at HIT LB;clear hline;have QR:=hide (fun W=>l7room_any line (unhide LB) W);have QA:=hide (fun W=>l7act_any line (unhide LB) W);rw[←unhide SUB] at QR QA;by_cases n0:n=0
       ·subst n0;have RM:=hide ((unhide hri).room (by omega) (unhide HIT));go_wp2_with fail;refine(unhide QR _).mono ?_;rintro e2 w3 ⟨r,he2,hr,x3⟩;have e3:=unhide he2;clear he2;subst e3;have SC3:=hide ((unhide hsc).ext x3);have OP3:=hide (fun j (hj:j<4)=>((unhide hop j hj).ext x3).set ⟨w.heap.size+1,2,none⟩ (iv r));have XQ:=hide (show Ext w (w3.setCell ⟨w.heap.size+1,2,none⟩ (iv r)) from(hbl.trans x3).setCell (p:=⟨w.heap.size+1,2,none⟩) (by simp) (iv r));have SC4:=hide ((unhide SC3).putRoom r);obtain⟨t0,t1,t2,t3,t4,t5⟩:=unhide SC3
        have OW4:=hide (ownsRow_of_block (w':=w3.setCell ⟨w.heap.size+1,2,none⟩ (iv r)) (unhide hown) (fun q hq=>by
         have:=((unhide hown).lt q hq).1;rw[Below.heap_setCell _ _ _ _ (fun e=>by simp only at e;omega)];exact x3.block q ((unhide hown).lt q hq).2))
        cases qo:roomO line with
        | none=>
         have E:=hide ((unhide RM).2.2.1 qo);have O3:=hide (fun j (hj:j<4)=>(unhide hop j hj).ext x3);obtain⟨⟨o0,r0⟩,f0⟩:=unhide O3 0 (by omega);obtain⟨⟨o1,r1⟩,f1⟩:=unhide O3 1 (by omega);obtain⟨⟨o2,r2⟩,f2⟩:=unhide O3 2 (by omega);obtain⟨⟨o3,r3⟩,f3⟩:=unhide O3 3 (by omega);go_wp2_with fail;refine bodyPost_ret (v:=.agg #[.bool false,.int .i64 (1),.int .i64 0,.slice none 0 0]) (by simp [results,Tryz.results10,go_sem,r0,r1,r2,r3]) rfl ?_;exact⟨.slice none 0 0,hide (by rw[unhide E];rfl),hide (by rw[unhide E];exact World.ownsRow_nil _ _ _ _),ext4 (unhide XQ) _ _ _ _⟩
        | some rr=>
         have E:=hide ((unhide RM).2.2.2 rr qo);have ER:=unhide hr rr qo;subst ER;have AE:=(unhide RM).1;subst AE;have NX:=hide (RdI.roomed hlt rfl (unhide E));go_wp2_with fail;go_roundw
         case rel=>exact⟨1,e+1,r,[],_,rfl,by go_num,unhide NX,unhide SC4,unhide OW4,unhide OP3,unhide XQ⟩
         case measure=>simp [intOf];omega
       ·have nn1:¬(n:Int)+1=1:=by omega
        by_cases h1000:acc.length<1000
        ·go_wp2_with fail;refine(unhide QA _).mono ?_;rintro e2 w3 ⟨hans,x3⟩;obtain⟨y,hy1,hy2⟩:=unhide hans;subst hy1;have HY:=hide hy2;clear hans hy2
         have AB:=hide (show ∀j,j<5→Open w3 wr.heap.size j from fun j hj=>Open.ext (by
          match j,hj with
          | 0,_=>exact⟨⟨iv 0,by simp [go_sem]⟩,by simp [go_sem]⟩
          | 1,_=>exact⟨⟨iv 0,by simp [go_sem]⟩,by simp [go_sem]⟩
          | 2,_=>exact⟨⟨iv 0,by simp [go_sem]⟩,by simp [go_sem]⟩
          | 3,_=>exact⟨⟨iv 0,by simp [go_sem]⟩,by simp [go_sem]⟩
          | 4,_=>exact⟨⟨iv 0,by simp [go_sem]⟩,by simp [go_sem]⟩) x3)
         have X3:=hide (show Ext wr w3 from((Ext.refl wr).alloc _).trans x3);obtain⟨⟨a0,b0⟩,c0⟩:=unhide AB 0 (by omega);obtain⟨⟨a1,b1⟩,c1⟩:=unhide AB 1 (by omega);obtain⟨⟨a2,b2⟩,c2⟩:=unhide AB 2 (by omega);obtain⟨⟨a3,b3⟩,c3⟩:=unhide AB 3 (by omega);obtain⟨⟨a4,b4⟩,c4⟩:=unhide AB 4 (by omega);have SC3:=hide ((unhide hsc).ext (unhide X3));obtain⟨t0,t1,t2,t3,t4,t5⟩:=unhide SC3;have hws:w.heap.size+1<wr.heap.size:=cell_lt s0;have hne1:¬w.heap.size+1=wr.heap.size:=by omega
         have hne2:¬w.heap.size=wr.heap.size:=by omega
         obtain⟨bo,hbo⟩:∃b,b=(actO line).isSome:=⟨_,rfl⟩;rw[←hbo];have HBO:=hide hbo;clear hbo x3 s0 s1 s2 s3
         have O3:=hide (ownsRow_of_block (w':=set5 w3 wr.heap.size y) (unhide hown) (fun q hq=>by
          have h1:=((unhide hown).lt q hq);rw[set5_block _ _ _ _ (by omega)];exact(unhide X3).block q h1.2))
         have X4:=hide (show Ext w (set5 w3 wr.heap.size y) from((((((hbl.trans (unhide X3)).setCell (p:=⟨wr.heap.size,0,none⟩) (by simp only;omega) (iv y.op)).setCell (p:=⟨wr.heap.size,1,none⟩) (by simp only;omega) (iv y.a)).setCell (p:=⟨wr.heap.size,2,none⟩) (by simp only;omega) (iv y.b)).setCell (p:=⟨wr.heap.size,3,none⟩) (by simp only;omega) (iv y.c)).setCell (p:=⟨wr.heap.size,4,none⟩) (by simp only;omega) (iv y.n)));have h34:=(unhide X3).size;have OPW:=hide (fun j (hj:j<4)=>(unhide hop j hj).ext (unhide X3));go_wp2_with (at_builtin;refine wpList_append_lies _ rfl _ _ 23 rfl (w.heap.size+2) 43 i0 (.agg #[iv 0,iv 0,iv 0,iv 0,iv 0]) 5 40 Tryz.underlying23 hi0 hz0 hz1 hz2 rfl (by decide) _ acc.length (acc.flatMap fA) rfl ((unhide O3).alloc _) _ 1 1 (fA y) rfl rfl ?c1 ?c2 (by decide) ?c3 ?c4 ?c5 _ rfl ?_)
         case c1=>
          intro q u hk
          match q,hk with
          | 0,hk=>simp [fA] at hk;subst hk;simp [Addr.add,go_sem]
          | 1,hk=>simp [fA] at hk;subst hk;simp [Addr.add,go_sem]
          | 2,hk=>simp [fA] at hk;subst hk;simp [Addr.add,go_sem]
          | 3,hk=>simp [fA] at hk;subst hk;simp [Addr.add,go_sem]
          | 4,hk=>simp [fA] at hk;subst hk;simp [Addr.add,go_sem]
          | q+5,hk=>simp [fA] at hk
         case c2=>intro u hu;simp [fA] at hu;rcases hu with e | e | e | e | e <;> subst e <;> rfl
         case c3=>unfold maxLen;omega
         case c4=>omega
         case c5=>simp;omega
         intro g cap' w5 hown5 hgrow hat hglt;have BLK:=hide (show ∀q,q<w.heap.size+2→w5.heap[q]?=w3.heap[q]? from fun q h2=>(hgrow.block q (by simp;omega) (fun e=>by have:=(((unhide O3).alloc (.cells #[iv y.op,iv y.a,iv y.b,iv y.c,iv y.n] 43)).lt q e.symm).1;omega)).trans ((Lib.alloc_old _ _ q (by simp;omega)).trans (set5_block w3 wr.heap.size y q (by omega))));have X5:=hide (grown_ext ((unhide X4).alloc _) ((unhide O3).alloc _) (by omega) hgrow);have SC5:=hide ((unhide SC3).of_block (unhide BLK (w.heap.size+1) (by omega)));have OP5:=hide (fun j (hj:j<4)=>open_of_block (unhide OPW j hj) (unhide BLK w.heap.size (by omega)))
         have R5:=hide (show w5.ownsRow (w.heap.size+2) 43 5 (.slice (some ⟨g,0,none⟩) (acc.length+1) cap') (acc++[y]).length ((acc++[y]).flatMap fA) by
          rw[List.flatMap_append]
          simpa using hown5)
         clear hown5 hgrow hat b0 b1 b2 b3 b4 c0 c1 c2 c3 c4 t0 t1 t2 t3 t4 t5;obtain⟨t0,t1,t2,t3,t4,t5⟩:=unhide SC5;have X6:=hide ((unhide X5).setCell (p:=⟨w.heap.size+1,3,none⟩) (by simp) (.slice (some ⟨g,0,none⟩) (acc.length+1) cap'));cases bo with
         | false=>
          have E:=hide ((unhide hri).bad (by omega) (unhide HIT) (fun _=>by
           have:=unhide HBO;cases q:actO line with
           | none=>rfl
           | some z=>rw[q] at this;cases this))
          obtain⟨⟨o0,r0⟩,f0⟩:=unhide OP5 0 (by omega);obtain⟨⟨o1,r1⟩,f1⟩:=unhide OP5 1 (by omega);obtain⟨⟨o2,r2⟩,f2⟩:=unhide OP5 2 (by omega);obtain⟨⟨o3,r3⟩,f3⟩:=unhide OP5 3 (by omega);go_wp2_with fail;refine bodyPost_ret (v:=.agg #[.bool false,.int .i64 ((n:Int)+1),.int .i64 0,.slice none 0 0]) (by simp [results,Tryz.results10,go_sem,r0,r1,r2,r3]) rfl ?_;exact⟨.slice none 0 0,hide (by rw[unhide E];rfl),hide (by rw[unhide E];exact World.ownsRow_nil _ _ _ _),ext4 (unhide X6) _ _ _ _⟩
         | true=>
          have AY:=hide (show actO line=some y by
           have:=unhide HBO;cases q:actO line with
           | none=>rw[q] at this;cases this
           | some z=>rw[unhide HY z q])
          have NX:=hide ((unhide hri).act (by omega) ae hlt (unhide HIT) h1000 (unhide AY));have SC6:=hide ((unhide SC5).putActs (.slice (some ⟨g,0,none⟩) (acc.length+1) cap'));have OP6:=hide (fun j (hj:j<4)=>(unhide OP5 j hj).set ⟨w.heap.size+1,3,none⟩ (.slice (some ⟨g,0,none⟩) (acc.length+1) cap'))
          have R6:=hide (ownsRow_of_block (w':=w5.setCell ⟨w.heap.size+1,3,none⟩ (.slice (some ⟨g,0,none⟩) (acc.length+1) cap')) (unhide R5) (fun q hq=>by
           have:=((unhide R5).lt q hq).1;rw[Below.heap_setCell _ _ _ _ (fun e=>by simp only at e;omega)]))
          go_wp2_with fail;go_roundw
          case rel=>exact⟨n+1,e+1,room,acc++[y],_,by go_num,by go_num,unhide NX,unhide SC6,unhide R6,unhide OP6,unhide X6⟩
          case measure=>simp [intOf];omega
        ·have E:=hide ((unhide hri).bad (by omega) (unhide HIT) (fun h=>absurd h h1000));obtain⟨⟨o0,r0⟩,f0⟩:=unhide hop 0 (by omega);obtain⟨⟨o1,r1⟩,f1⟩:=unhide hop 1 (by omega);obtain⟨⟨o2,r2⟩,f2⟩:=unhide hop 2 (by omega);obtain⟨⟨o3,r3⟩,f3⟩:=unhide hop 3 (by omega);go_wp2_with fail;refine bodyPost_ret (v:=.agg #[.bool false,.int .i64 ((n:Int)+1),.int .i64 0,.slice none 0 0]) (by simp [results,Tryz.results10,go_sem,r0,r1,r2,r3]) rfl ?_;exact⟨.slice none 0 0,hide (by rw[unhide E];rfl),hide (by rw[unhide E];exact World.ownsRow_nil _ _ _ _),ext4 hbl _ _ _ _⟩
     ·have e1:e=tx.length:=by omega
      have MS:=hide ((unhide hri).cut (by omega) (.inl ha) (by have:=unhide hnl;rw[e1] at this;exact this.miss));have qe:((e:Int) == (tx.length:Int))=true:=by simp;omega
      have E:=MS;clear e1;obtain⟨⟨o0,r0⟩,f0⟩:=unhide hop 0 (by omega);obtain⟨⟨o1,r1⟩,f1⟩:=unhide hop 1 (by omega);obtain⟨⟨o2,r2⟩,f2⟩:=unhide hop 2 (by omega);obtain⟨⟨o3,r3⟩,f3⟩:=unhide hop 3 (by omega);go_wp2_with fail;refine bodyPost_ret (v:=.agg #[.bool false,.int .i64 ((n:Int)+1),.int .i64 0,.slice none 0 0]) (by simp [results,Tryz.results10,go_sem,r0,r1,r2,r3]) rfl ?_;exact⟨.slice none 0 0,hide (by rw[unhide E];rfl),hide (by rw[unhide E];exact World.ownsRow_nil _ _ _ _),ext4 hbl _ _ _ _⟩
theorem index_one_none(c:UInt8)(l:List UInt8)(h:∀x∈l,x≠c):Lib.index l [c] = -1:=by
 induction l with
 | nil=>rfl
 | cons b r ih=>
  have h1:=ih (fun x hx=>h x (List.mem_cons_of_mem _ hx));have h2:=h b (List.mem_cons_self ..);unfold Lib.index;rw[h1];have:([c]:List UInt8).isPrefixOf (b::r)=false:=by simp [List.isPrefixOf,Ne.symm h2]
  simp [this]
theorem index_one_some(c:UInt8)(a b:List UInt8)(h:∀x∈a,x≠c):Lib.index (a++c::b) [c]=(a.length:Int):=by
 induction a with
 | nil=>unfold Lib.index;simp [List.isPrefixOf]
 | cons d r ih=>
  have h1:=ih (fun x hx=>h x (List.mem_cons_of_mem _ hx));have h2:=h d (List.mem_cons_self ..);rw[List.cons_append];unfold Lib.index;rw[h1];have:([c]:List UInt8).isPrefixOf (d::(r++c::b))=false:=by simp [List.isPrefixOf,Ne.symm h2]
  rw[this];have h3:((r.length:Int) == -1)=false:=by rw[beq_eq_false_iff_ne];omega
  simp [h3]
theorem first_of(c:UInt8)(l:List UInt8):(∀x∈l,x≠c)∨∃a b,l=a++c::b∧∀x∈a,x≠c:=by
 induction l with
 | nil=>exact .inl (by simp)
 | cons d r ih=>
  by_cases e:d=c
  ·exact .inr ⟨[],r,by rw[e];rfl,by simp⟩
  ·rcases ih with ih | ⟨a,b,h1,h2⟩
   ·refine .inl (fun x hx=>?_);rcases List.mem_cons.1 hx with rfl | hx
    ·exact e
    ·exact ih x hx
   ·refine .inr ⟨d::a,b,by rw[h1];rfl,fun x hx=>?_⟩;rcases List.mem_cons.1 hx with rfl | hx
    ·exact e
    ·exact h2 x hx
theorem cut_some{l a b:List UInt8}(h:cutN l=some (a,b)):Lib.cut l [10]=(a,b,true):=by
 rcases first_of 10 l with h1 | ⟨a',b',h1,h2⟩
 ·rw[cutN_none l h1] at h;cases h
 ·rw[h1,cutN_seg a' b' h2] at h;cases h;unfold Lib.cut;rw[h1,index_one_some 10 a b h2,if_pos (by omega)];simp
theorem cut_none{l:List UInt8}(h:cutN l=none):Lib.cut l [10]=(l,[],false):=by
 rcases first_of 10 l with h1 | ⟨a',b',h1,h2⟩
 ·unfold Lib.cut;rw[index_one_none 10 l h1,if_neg (by omega)]
 ·rw[h1,cutN_seg a' b' h2] at h;cases h
theorem split_words(n:Nat):∀l:List UInt8,l.length≤n→Lib.splitK [32] 0 (Lib.count l [32]) l=wordsL l:=by
 induction n with
 | zero=>
  intro l hl;have:l=[]:=List.length_eq_zero_iff.1 (by omega);subst this;rfl
 | succ n ih=>
  intro l hl;rcases first_of 32 l with h1 | ⟨a,b,h1,h2⟩
  ·have hi:=index_one_none 32 l h1;rw[Lib.count_miss hi,words_one l h1];rfl
  ·have hi:=index_one_some 32 a b h2;rw[←h1] at hi;have hlen:l.length=a.length+1+b.length:=by rw[h1];simp;omega
   have hd:l.drop (a.length+1)=b:=by rw[h1];simp
   have ht:l.take (a.length+0)=a:=by rw[h1];simp
   have hc:Lib.count l [32]=Lib.count b [32]+1:=by
    rw[Lib.count_hit (sub:=[32]) (by simp) hi,List.length_singleton,hd];omega
   rw[hc];unfold Lib.splitK;rw[hi];have h3:((a.length:Int) == -1)=false:=by rw[beq_eq_false_iff_ne];omega
   rw[if_neg (by simp [h3])];simp only [Int.toNat_natCast,List.length_singleton];rw[hd,ht,ih b (by omega),h1,words_seg a b h2]
theorem parse_val{M:Nat}(hM:M≤18446744073709551615):∀(l:List UInt8) (acc:Nat),(∀c∈l,Dig c)→valF acc l≤M→Lib.parseUintM M acc l=.ok (valF acc l)
 | [],acc,_,_=>rfl
 | c::r,acc,hd,hv=>by
  have h1:=hd c (List.mem_cons_self ..)
  have h2:∀(l:List UInt8) (x:Nat),x≤valF x l:=by
   intro l
   induction l with
   | nil=>intro x;exact Nat.le_refl _
   | cons d s ih=>
    intro x;have:=ih (x*10+(d.toNat-48));show x≤valF (x*10+(d.toNat-48)) s;omega
  have h3:valF acc (c::r)=valF (acc*10+(c.toNat-48)) r:=rfl;rw[h3] at hv ⊢;have h4:=h2 r (acc*10+(c.toNat-48));unfold Lib.parseUintM;unfold Dig at h1;rw[if_pos h1,if_neg (by omega),if_neg (by omega)];exact parse_val hM r _ (fun x hx=>hd x (List.mem_cons_of_mem _ hx)) hv
theorem parse_itoa{n:Int}(h:InI n):Lib.parseIntB 64 (Lib.itoa n)=.ok n:=by
 unfold InI at h;unfold Lib.itoa;by_cases hn:n<0
 ·rw[if_pos hn];have hd:=dec_val n.natAbs;have hp:=parse_val (M:=2 ^ 64-1) (by decide) (Lib.decDigits n.natAbs) 0 hd.2.1 (by rw[hd.1];omega);have p:(2:Nat) ^ (64-1)=9223372036854775808:=by decide
  have hk:(if UInt8.toNat 45=43∨UInt8.toNat 45=45 then Lib.decDigits n.natAbs else 45::Lib.decDigits n.natAbs)=Lib.decDigits n.natAbs:=if_pos (Or.inr (by decide));unfold Lib.parseIntB Lib.parseUintB;simp only;rw[hk,if_neg hd.2.2,hp,hd.1];simp only;rw[p,if_neg (fun h2=>h2.1 (by decide)),if_neg (by intro h2;omega),if_pos (by decide)]
  congr 1;omega
 ·rw[if_neg hn];have hd:=dec_val n.toNat;have hp:=parse_val (M:=2 ^ 64-1) (by decide) (Lib.decDigits n.toNat) 0 hd.2.1 (by rw[hd.1];omega);cases q:Lib.decDigits n.toNat with
  | nil=>exact absurd q hd.2.2
  | cons c r=>
   have h1:=hd.2.1 c (by rw[q];exact List.mem_cons_self ..);unfold Dig at h1;have p:(2:Nat) ^ (64-1)=9223372036854775808:=by decide
   have h2:¬c.toNat=45:=by omega
   unfold Lib.parseIntB Lib.parseUintB;simp only;rw[if_neg (show ¬(c.toNat=43∨c.toNat=45) by omega),if_neg (by simp),←q,hp,hd.1];simp only;rw[p,if_neg (by intro h3;omega),if_neg (fun h3=>h2 h3.1),if_neg h2]
   congr 1;omega
theorem parse_in{l:List UInt8}{n:Int}(h:Lib.parseIntB 64 l=.ok n):InI n:=by
 unfold Lib.parseIntB at h;cases l with
 | nil=>cases h
 | cons c r=>
  simp only at h
  split at h
  ·cases h
  ·cases h
  ·rename_i u _
   split at h
   ·cases h
   ·split at h
    ·cases h
    ·rename_i h1 h2;have e:=Lib.NumEnd.ok.inj h;unfold InI;rw[←e];simp only [not_and] at h1 h2
     split
     ·rename_i h3;have:=h2 h3;omega
     ·rename_i h3;have:=h1 h3;omega
def RdAt(W:World)(b:Nat)(rest:List UInt8)(ln:Nat):Prop:=W.cell? ⟨b,0,none⟩=some (.string (sB rest))∧W.cell? ⟨b,1,none⟩=some (iv ln)∧W.frozen? ⟨b,0,none⟩=false∧W.frozen? ⟨b,1,none⟩=false
def faultP(ln:Nat):Ending:=.panicked [{ v:=.iface 83 (.agg #[iv ln]),recovered:=false }]
theorem must_yes(b:Nat)(w:World):Calls Tryz.prog 77 #[.pointer (some ⟨b,0,none⟩),.bool true] w fun e w'=>e=.returned (.tuple #[])∧w'=w:=by
 go_enter Tryz.func77,Tryz.ntmps77
 go_wp2
 first | refine bodyPost_end (results_none rfl _ _ _) rfl ?_ | refine bodyPost_ret (results_none rfl _ _ _) rfl ?_
 exact⟨rfl,rfl⟩
theorem must_no(b ln:Nat)(rest:List UInt8)(w:World)(h:RdAt w b rest ln):Calls Tryz.prog 77 #[.pointer (some ⟨b,0,none⟩),.bool false] w fun e w'=>e=faultP ln∧w'=w:=by
 obtain⟨h0,h1,h2,h3⟩:=h;go_enter Tryz.func77,Tryz.ntmps77
 go_wp2
 exact⟨rfl,rfl,rfl⟩
theorem split_is(l:List UInt8):Lib.splitB (sB [32]) 0 (Lib.countB (sB l) (sB [32])) (sB l)=(wordsL l).map sB:=by
 have h:=Lib.splitB_data (sB [32]) 0 (Lib.countB (sB l) (sB [32])) (sB l);have h2:Lib.splitK (sB [32]).data.toList 0 (Lib.countB (sB l) (sB [32])) (sB l).data.toList=wordsL l:=split_words l.length l (Nat.le_refl _);rw[h2] at h;rw[←h,List.map_map]
 have:(sB ∘ fun x:ByteArray=>x.data.toList)=id:=by
  funext x
  cases x;rfl
 rw[this,List.map_id]
theorem count_is(l:List UInt8):Lib.countB (sB l) (sB [32])+1=(wordsL l).length:=by
 have h1:=congrArg List.length (split_is l);rw[List.length_map] at h1;have h2:=Lib.splitB_all (sB [32]) (by simp [ByteArray.size]) 0 _ (sB l) rfl;omega
theorem alloc_new(w:World)(o:Obj):(w.alloc o).heap[w.heap.size]?=some o:=by
 show(w.heap.push o)[w.heap.size]?=_;simp
theorem ext_drewN{a w:World}(h:Ext a w)(n:Nat):Ext a (w.drewN n):=⟨h.os,h.tape,h.output,h.size,fun k hk=>h.block k hk⟩
theorem own_split(w:World)(B:Nat)(l:List UInt8)(hB:B≤w.heap.size)(hl:l.length≤20000):(w.alloc (.cells (((wordsL l).map sB).map Value.string).toArray 9)).ownsRow B 9 1 (.slice (some ⟨w.heap.size,0,none⟩) (wordsL l).length (wordsL l).length) (wordsL l).length ((wordsL l).flatMap sC):=by
 have e:(wordsL l).flatMap sC=((wordsL l).map sB).map Value.string:=by
  generalize wordsL l=L
  induction L with
  | nil=>rfl
  | cons a r ih=>rw[List.flatMap_cons,ih];rfl
 have hw:=words_len l;refine⟨by rw[e];simp,.inr ⟨w.heap.size,_,_,rfl,hB,(alloc_new w _),Nat.le_refl _,by unfold maxLen;omega,by simp,?_⟩⟩;rw[e];exact List.take_of_length_le (by simp)
def LibAt(W:World):Prop:=(∃m,W.cell? ⟨2,0,none⟩=some (.int .i64 m))∧(∃t p,W.cell? ⟨3,0,none⟩=some (.iface t p))∧(∃t p,W.cell? ⟨4,0,none⟩=some (.iface t p))
theorem RdAt.of_block{W W':World}{b:Nat}{rest:List UInt8}{ln:Nat}(h:RdAt W b rest ln)(e:W'.heap[b]?=W.heap[b]?):RdAt W' b rest ln:=by
 have c:∀o,W'.cell? ⟨b,o,none⟩=W.cell? ⟨b,o,none⟩:=fun o=>World.cell?_of_block (a:=⟨b,o,none⟩) e
 have f:∀o,W'.frozen? ⟨b,o,none⟩=W.frozen? ⟨b,o,none⟩:=fun o=>by unfold World.frozen?;rw[e]
 exact⟨(c 0).trans h.1,(c 1).trans h.2.1,(f 0).trans h.2.2.1,(f 1).trans h.2.2.2⟩
theorem RdAt.ext{W W':World}{b:Nat}{rest:List UInt8}{ln:Nat}(h:RdAt W b rest ln)(x:Ext W W'):RdAt W' b rest ln:=h.of_block (x.block b (cell_lt h.1))
theorem RdAt.putLine{W:World}{b:Nat}{rest:List UInt8}{ln:Nat}(h:RdAt W b rest ln)(n:Nat):RdAt (W.setCell ⟨b,1,none⟩ (iv n)) b rest n:=by
 have o0:Open W b 0:=⟨⟨_,h.1⟩,h.2.2.1⟩;have o1:Open W b 1:=⟨⟨_,h.2.1⟩,h.2.2.2⟩;exact⟨by rw[cell_other _ (.inr (by omega))];exact h.1,o1.same _,(o0.set _ _).2,(o1.set _ _).2⟩
theorem RdAt.putRest{W:World}{b:Nat}{rest:List UInt8}{ln:Nat}(h:RdAt W b rest ln)(r:List UInt8):RdAt (W.setCell ⟨b,0,none⟩ (.string (sB r))) b r ln:=by
 have o0:Open W b 0:=⟨⟨_,h.1⟩,h.2.2.1⟩;have o1:Open W b 1:=⟨⟨_,h.2.1⟩,h.2.2.2⟩;exact⟨o0.same _,by rw[cell_other _ (.inr (by omega))];exact h.2.1,(o0.set _ _).2,(o1.set _ _).2⟩
theorem words_none(b ln:Nat)(rest:List UInt8)(W:World)(h:RdAt W b rest ln)(hb:2<b)(hL:LibAt W)(hl:rest.length≤20000)(hn:ln≤20000)(hc:cutN rest=none):
  Calls Tryz.prog 76 #[.pointer (some ⟨b,0,none⟩)] W fun e w'=>Hid (e=faultP (ln+1))∧Only (fun q=>q=b) W w':=by
 obtain⟨m,hm⟩:=hL.1;have QC:=hide (fun W' (hm':W'.cell? ⟨2,0,none⟩=some (.int .i64 m))=>Tryz.strings_Cut (sB rest) (sB [10]) m W' (by simp [ByteArray.size];omega) hm');have CN:Lib.cut (sB rest).data.toList (sB [10]).data.toList=(rest,[],false):=cut_none hc;rw[CN] at QC;clear CN;have ec:((ln+1:Nat):Int)=(ln:Int)+1:=by omega
 have R1:=hide (h.putLine (ln+1));rw[ec] at R1;have hm1:(W.setCell ⟨b,1,none⟩ (iv ((ln:Int)+1))).cell? ⟨2,0,none⟩=some (.int .i64 m):=by rw[cell_other _ (.inl (by omega))];exact hm
 have QC1:=hide (unhide QC _ hm1);obtain⟨h0,h1,h2,h3⟩:=h;clear ec QC hm1 hm hL;go_enter Tryz.func76,Tryz.ntmps76;go_wp2_with fail;refine(unhide QC1).mono ?_;rintro e w2 ⟨rfl,k,hw2⟩;have X2:=hide (show Ext (W.setCell ⟨b,1,none⟩ (iv ((ln:Int)+1))) w2 by rw[hw2];exact ext_drewN (Ext.refl _) k);have R2:=hide ((unhide R1).ext (unhide X2));have O2:=hide ((Only.setCell (S:=fun q=>q=b) (Only.refl _ W) (p:=⟨b,1,none⟩) rfl (iv ((ln:Int)+1))).trans (Only.of_ext (unhide X2)));clear hw2 h0 h1 h2 h3;go_wp2_with fail;refine(must_no b (ln+1) rest w2 (unhide R2)).mono ?_;rintro e w3 ⟨rfl,hw3⟩;subst hw3;exact⟨rfl,hide rfl,unhide O2⟩
theorem words_some(b ln:Nat)(rest line rest':List UInt8)(W:World)(h:RdAt W b rest ln)(hb:2<b)(hL:LibAt W)(hl:rest.length≤20000)(hn:ln≤20000)(hc:cutN rest=some (line,rest')):
  Calls Tryz.prog 76 #[.pointer (some ⟨b,0,none⟩)] W fun e w'=>∃v,Hid (e=.returned v)∧Hid (w'.ownsRow W.heap.size 9 1 v (wordsL line).length ((wordsL line).flatMap sC))∧RdAt w' b rest' (ln+1)∧Only (fun q=>q=b) W w':=by
 obtain⟨m,hm⟩:=hL.1;have hlen:=cutN_len hc;have QC:=hide (fun W' (hm':W'.cell? ⟨2,0,none⟩=some (.int .i64 m))=>Tryz.strings_Cut (sB rest) (sB [10]) m W' (by simp [ByteArray.size];omega) hm');have QS:=hide (fun W' (hm':W'.cell? ⟨2,0,none⟩=some (.int .i64 m))=>Tryz.strings_Split (sB line) (sB [32]) m W' (by simp [ByteArray.size];omega) hm' (by simp [ByteArray.size]));have CN:Lib.cut (sB rest).data.toList (sB [10]).data.toList=(line,rest',true):=cut_some hc;rw[CN] at QC;rw[split_is,count_is] at QS;clear CN;have ec:((ln+1:Nat):Int)=(ln:Int)+1:=by omega
 have R1:=hide (h.putLine (ln+1));rw[ec] at R1;have hm1:(W.setCell ⟨b,1,none⟩ (iv ((ln:Int)+1))).cell? ⟨2,0,none⟩=some (.int .i64 m):=by rw[cell_other _ (.inl (by omega))];exact hm
 have QC1:=hide (unhide QC _ hm1);obtain⟨h0,h1,h2,h3⟩:=h;have HM1:=hide hm1;clear ec QC hm hL hm1;go_enter Tryz.func76,Tryz.ntmps76;go_wp2_with fail;refine(unhide QC1).mono ?_;rintro e w2 ⟨rfl,k,hw2⟩;have X2:=hide (show Ext (W.setCell ⟨b,1,none⟩ (iv ((ln:Int)+1))) w2 by rw[hw2];exact ext_drewN (Ext.refl _) k);have R2:=hide ((unhide R1).ext (unhide X2));have O2:=hide ((Only.setCell (S:=fun q=>q=b) (Only.refl _ W) (p:=⟨b,1,none⟩) rfl (iv ((ln:Int)+1))).trans (Only.of_ext (unhide X2)));have R3:=hide ((unhide R2).putRest rest');have HM2:=hide (show(w2.setCell ⟨b,0,none⟩ (.string (sB rest'))).cell? ⟨2,0,none⟩=some (.int .i64 m) by rw[cell_other _ (.inl (by omega))];exact(unhide X2).keep (unhide HM1));have QS1:=hide (unhide QS _ (unhide HM2));clear hw2 h0 h1 h2 h3;obtain⟨h0,h1,h2,h3⟩:=unhide R2;go_wp2_with fail;refine(must_yes b w2).mono ?_;rintro e w3 ⟨rfl,hw3⟩;subst hw3;go_wp2_with fail;refine(unhide QS1).mono ?_;rintro e w4 ⟨rfl,hw4⟩;have OS:=hide (own_split (w3.setCell ⟨b,0,none⟩ (.string (sB rest'))) W.heap.size line (by have:=(unhide O2).size;simpa using this) (by omega));have R4:=hide ((unhide R3).ext (show Ext (w3.setCell ⟨b,0,none⟩ (.string (sB rest'))) w4 by rw[hw4];exact(Ext.refl _).alloc _));have O4:=hide (show Only (fun q=>q=b) W w4 from((unhide O2).setCell (p:=⟨b,0,none⟩) rfl (.string (sB rest'))).trans (Only.of_ext (by rw[hw4];exact(Ext.refl _).alloc _)));rw[←hw4] at OS;clear hw4;go_wp2_with fail;go_ret;exact⟨_,rfl,hide (by simpa using unhide OS),unhide R4,unhide O4⟩
theorem parseInt_any(l:List UInt8)(hl:l.length≤20000)(W:World)(hL:LibAt W):Calls Tryz.prog 110 #[.string (sB l),.int .i64 10,.int .i64 64] W fun e w'=>
  (∃n:Int,Lib.parseIntB 64 l=.ok n∧e=.returned (.tuple #[.int .i64 n,.nilIface])∧Ext W w')∨((∀n,Lib.parseIntB 64 l≠.ok n)∧∃(n:Int) (t:TypeId) (N:Nat),e=.returned (.tuple #[.int .i64 n,.iface t (.pointer (some ⟨N,0,none⟩))])∧Ext W w'):=by
 have hs:(sB l).data.toList=l:=rfl;have hz:(sB l).size=l.length:=by simp [ByteArray.size]
 cases q:Lib.parseIntB 64 l with
 | ok n=>
  refine(Any.strconv_ParseInt_10_at64_ok Tryz.laysC174 (sB l) (by omega) n (by rw[hs];exact q) W).mono ?_;rintro e w' ⟨rfl,hw⟩;refine .inl ⟨n,rfl,rfl,?_⟩;rcases hw with rfl | ⟨t,rfl⟩
  ·exact Ext.refl _
  ·exact Lib.bytesWorld_below ..
 | «syntax»=>
  obtain⟨t,p,hc⟩:=hL.2.1;refine(Any.strconv_ParseInt_10_at64_syntax Tryz.laysC174 (sB l) (by omega) (by rw[hs];exact q) _ W hc (.inr ⟨t,p,rfl⟩)).mono ?_;rintro e w' ⟨N,rfl,_,_,hb⟩;exact .inr ⟨(fun n h=>by cases h),_,_,N,rfl,hb⟩
 | range=>
  obtain⟨t,p,hc⟩:=hL.2.2;refine(Any.strconv_ParseInt_10_at64_range Tryz.laysC174 (sB l) (by omega) (by rw[hs];exact q) _ W hc (.inr ⟨t,p,rfl⟩)).mono ?_;rintro e w' ⟨N,rfl,_,_,hb⟩;exact .inr ⟨(fun n h=>by cases h),_,_,N,rfl,hb⟩
theorem number_any(b ln:Nat)(rest l:List UInt8)(W:World)(h:RdAt W b rest ln)(hL:LibAt W)(hp:PowAt W)(hl:l.length≤20000):
  Calls Tryz.prog 78 #[.pointer (some ⟨b,0,none⟩),.string (sB l)] W fun e w'=>((numB l=true∧Hid (e=.returned (.int .i64 (numV l))))∨(numB l=false∧Hid (e=faultP ln)))∧Ext W w':=by
 have QP:=hide (parseInt_any l hl W hL);have RD:=hide h;have HP:=hide hp;clear h hp hL;go_enter Tryz.func78,Tryz.ntmps78;go_wp2_with fail;refine(unhide QP).mono ?_;rintro e w2 (⟨n,hn,rfl,x2⟩ | ⟨hno,n,t,N,rfl,x2⟩)
 ·have IN:=parse_in hn;have QD:=hide (decimal_any n IN.1 IN.2 w2 ((unhide HP).ext x2));have R2:=hide ((unhide RD).ext x2);cases q:(Lib.itoa n == l)
  ·have NB:=hide (show numB l=false by
    cases qb:numB l with
    | false=>rfl
    | true=>
     have h1:=(numB_iff l).1 qb;have h2:=parse_itoa h1.1;rw[←h1.2,hn] at h2;have h3:=Lib.NumEnd.ok.inj h2;rw[h3,←h1.2] at q;simp at q)
   go_wp2_with (go_at_call 34;refine(unhide QD).mono ?_;rintro e w3 ⟨rfl,x3⟩);refine(must_no b ln rest w3 ((unhide R2).ext x3)).mono ?_;rintro e w4 ⟨rfl,hw4⟩;subst hw4;exact⟨rfl,.inr ⟨unhide NB,rfl⟩,x2.trans x3⟩
  ·have NB:=hide (numB_of (l:=l) (n:=n) ⟨IN,by simpa using (beq_iff_eq.1 q).symm⟩);go_wp2_with (go_at_call 34;refine(unhide QD).mono ?_;rintro e w3 ⟨rfl,x3⟩);refine(must_yes b w3).mono ?_;rintro e w4 ⟨rfl,hw4⟩;subst hw4;go_wp2_with fail;go_ret;exact⟨.inl ⟨(unhide NB).1,hide (by rw[(unhide NB).2];rfl)⟩,x2.trans x3⟩
 ·have NB:=hide (show numB l=false by
   cases qb:numB l with
   | false=>rfl
   | true=>
    have h1:=(numB_iff l).1 qb;have h2:=parse_itoa h1.1;rw[←h1.2] at h2;exact absurd h2 (hno _))
  go_wp2_with fail;refine(must_no b ln rest w2 ((unhide RD).ext x2)).mono ?_;rintro e w4 ⟨rfl,hw4⟩;subst hw4;exact⟨rfl,.inr ⟨unhide NB,rfl⟩,x2⟩
end Go.Proofs.YtnegjhddmfiefaaGreatDoor
