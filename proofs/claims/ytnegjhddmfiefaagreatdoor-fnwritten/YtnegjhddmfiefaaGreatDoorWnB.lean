import Derived.Test.YtnegjhddmfiefaaGreatDoorWa9
import Derived.Test.YtnegjhddmfiefaaGreatDoorYp
import Derived.Test.YtnegjhddmfiefaaGreatDoorXg
set_option maxRecDepth 100000
set_option maxHeartbeats 1000000
namespace Go.Proofs.YtnegjhddmfiefaaGreatDoor
open Go.RowKit
attribute [local go_sem ↓] Go.wp_at_zero Go.wp_at_succ
theorem wActs_same(xs:List Ak)(v v':Value)(w:World)(h:SlA w v xs)(h':SlA w v' xs):
  Calls Tryz.prog 8 #[v,v'] w fun e w'=>e=.returned (.bool true)∧Ext w w':=by
 obtain⟨ad,cap,rfl,hl,hx⟩:=h;obtain⟨ad',cap',rfl,_,hx'⟩:=h';have HX:=hide hx;have HY:=hide hx';clear hx hx';go_enter Tryz.func8,Tryz.ntmps8;go_wp2_with fail;go_loopw [5,13] (fun _i i wr=>∃k:Nat,k≤xs.length∧i=.int .i64 k∧Ext w wr) (fun _ i _=>xs.length-(intOf i).toNat)
 case atStart=>exact⟨0,Nat.zero_le _,rfl,Ext.refl _⟩
 case round=>
  obtain⟨k,hk,rfl,hbl⟩:=hrel;by_cases hlt:k<xs.length
  ·obtain⟨b,o,rfl,p0,p1,p2,p3,p4⟩:=unhide HX k hlt;obtain⟨b',o',rfl,q0,q1,q2,q3,q4⟩:=unhide HY k hlt;have e0:=hbl.keep p0;have g0:=hbl.keep q0;have e1:=hbl.keep p1;have g1:=hbl.keep q1;have e2:=hbl.keep p2;have g2:=hbl.keep q2;have e3:=hbl.keep p3;have g3:=hbl.keep q3;have e4:=hbl.keep p4;have g4:=hbl.keep q4;clear p0 q0 p1 q1 p2 q2 p3 q3 p4 q4;have hb:b<wr.heap.size:=cell_lt e0;have hb':b'<wr.heap.size:=cell_lt g0;have hk0:(0:Int)≤(k:Int):=by omega
   have hk1:(k:Int)<(xs.length:Int):=by omega
   obtain⟨y,hy⟩:∃y,y=xs[k]:=⟨_,rfl⟩;rw[←hy] at e0 g0 e1 g1 e2 g2 e3 g3 e4 g4;clear hy;go_wp2_with fail
   go_region
   go_wp2_with fail;go_roundw
   ·exact⟨k+1,by omega,by go_num,hbl.drew⟩
   ·simp [intOf];omega
  ·go_wp2_with fail;go_ret;exact⟨rfl,hbl⟩
theorem cutN_app(l r:List UInt8)(h:∀c∈l,c≠10):cutN (l++10::r)=some (l,r):=by
 induction l with
 | nil=>simp [cutN]
 | cons c l ih=>
  have hc:=h c (by simp);simp only [List.cons_append,cutN,if_neg hc];rw[ih (fun d hd=>h d (by simp [hd]))];rfl
theorem cutN_is:∀{t l r:List UInt8},cutN t=some (l,r)→t=l++10::r
 | [],l,r,h=>by simp [cutN] at h
 | c::t,l,r,h=>by
  unfold cutN at h;by_cases e:c=10
  ·rw[if_pos e] at h;simp at h;rw[e,h.1,h.2];rfl
  ·rw[if_neg e] at h;cases q:cutN t with
   | none=>rw[q] at h;simp at h
   | some x=>
    rw[q] at h;simp at h;rw[cutN_is q,←h.1,←h.2];rfl
def joinW:List (List UInt8)→List UInt8
 | []=>[]
 | [w]=>w
 | w::ws=>w++32::joinW ws
theorem join_words:∀l:List UInt8,joinW (wordsL l)=l
 | []=>rfl
 | c::l=>by
  have ih:=join_words l;unfold wordsL;by_cases e:c=32
  ·rw[if_pos e];cases q:wordsL l with
   | nil=>exact absurd q (words_ne l)
   | cons h t=>rw[q] at ih;simp only [joinW,List.nil_append];rw[ih,e]
  ·rw[if_neg e];cases q:wordsL l with
   | nil=>exact absurd q (words_ne l)
   | cons h t=>
    rw[q] at ih;cases t with
    | nil=>simp only [joinW] at ih ⊢;rw[ih]
    | cons t ts=>simp only [joinW,List.cons_append] at ih ⊢;rw[ih]
theorem words_lone:∀w:List UInt8,(∀c∈w,c≠32)→wordsL w=[w]
 | [],_=>rfl
 | c::w,h=>by
  unfold wordsL;rw[if_neg (h c (by simp)),words_lone w (fun d hd=>h d (by simp [hd]))]
theorem words_app:∀(w r:List UInt8),(∀c∈w,c≠32)→wordsL (w++32::r)=w::wordsL r
 | [],r,_=>by simp [wordsL]
 | c::w,r,h=>by
  rw[List.cons_append]
  conv=>lhs;unfold wordsL
  rw[if_neg (h c (by simp)),words_app w r (fun d hd=>h d (by simp [hd]))]
theorem itoa_chars(n:Int):∀c∈Lib.itoa n,c≠32∧c≠10:=by
 intro c hc;unfold Lib.itoa at hc
 have hd:∀u,∀c∈Lib.decDigits u,c≠32∧c≠10:=fun u c hc=>by
  have:=(dec_val u).2.1 c hc;unfold Dig at this;constructor
  ·intro e;rw[e] at this;simp at this
  ·intro e;rw[e] at this;simp at this
 split at hc
 ·simp at hc;rcases hc with e | e
  ·rw[e];decide
  ·exact hd _ c e
 ·exact hd _ c hc
theorem names_chars:nameT.all (fun l=>l.all (fun c=>c != 32 && c != 10))=true:=by decide +kernel
theorem name_chars(op:Int):∀c∈nameL op,c≠32∧c≠10:=by
 intro c hc;unfold nameL at hc;rw[List.getD_eq_getElem?_getD] at hc;cases q:nameT[op.toNat]? with
 | none=>rw[q] at hc;simp at hc
 | some l=>
  rw[q] at hc;have h:=List.all_eq_true.1 (List.all_eq_true.1 names_chars l (List.mem_of_getElem? q)) c hc
  simpa using h
theorem fld_chars(x:Ak)(k:Nat):∀c∈fldL x k,c≠10:=by
 intro c hc;unfold fldL at hc;rw[List.mem_flatMap] at hc;obtain⟨j,_,hj⟩:=hc
 split at hj
 ·simp at hj;rcases hj with e | e
  ·rw[e];decide
  ·exact(itoa_chars _ c e).2
 ·simp at hj
theorem line_chars(x:Ak):∀c∈lineL x,c≠10:=by
 intro c hc;unfold lineL at hc;rcases List.mem_append.1 hc with h | h
 ·exact(name_chars _ c h).2
 ·exact fld_chars x 4 c h
def numsL(x:Ak):List Int:=((List.range 4).filter (fun j=>hasL x.op j)).map x.num
theorem fld_nums(x:Ak):fldL x 4=(numsL x).flatMap (fun n=>32::Lib.itoa n):=by
 unfold fldL numsL;simp only [List.range,List.range.loop,List.flatMap_cons,List.flatMap_nil,List.filter_cons,List.filter_nil];cases h0:hasL x.op 0 <;> cases h1:hasL x.op 1 <;> cases h2:hasL x.op 2 <;> cases h3:hasL x.op 3 <;> simp
theorem words_nums:∀(w:List UInt8) (ns:List Int),(∀c∈w,c≠32)→wordsL (w++ns.flatMap (fun n=>32::Lib.itoa n))=w::ns.map Lib.itoa
 | w,[],h=>by simp;exact words_lone w h
 | w,n::ns,h=>by
  simp only [List.flatMap_cons,List.map_cons,List.cons_append];rw[words_app w _ h,words_nums (Lib.itoa n) ns (fun c hc=>(itoa_chars n c hc).1)]
theorem line_words(x:Ak):wordsL (lineL x)=nameL x.op::(numsL x).map Lib.itoa:=by
 unfold lineL;rw[fld_nums];exact words_nums _ _ (fun c hc=>(name_chars _ c hc).1)
theorem join_nums:∀(w:List UInt8) (ws:List (List UInt8)),joinW (w::ws)=w++ws.flatMap (fun u=>32::u)
 | w,[]=>by simp [joinW]
 | w,u::us=>by simp only [joinW,List.flatMap_cons,List.cons_append];rw[join_nums u us]
theorem ok_rest{x:Ak}(h:okA x=true):(1≤x.op∧x.op≤24)∧∀j,hasL x.op j=false→x.num j=0:=by
 unfold okA actOkB at h;simp only [Bool.and_eq_true,decide_eq_true_eq] at h;obtain⟨⟨⟨h1,h2⟩,h3⟩,h4,h5,h6⟩:=h;refine⟨⟨h1,h2⟩,fun j hj=>?_⟩;have hc:=op_cases x.op h1 h2;obtain⟨op,a,b,c,n⟩:=x;simp only at h1 h2 h3 h4 h5 h6 hc hj ⊢;clear h1 h2
 match j with
 | 0=>rcases hc with rfl | rfl | rfl | rfl | rfl | rfl | rfl | rfl | rfl | rfl | rfl | rfl | rfl | rfl | rfl | rfl | rfl | rfl | rfl | rfl | rfl | rfl | rfl | rfl <;> first | (exact absurd hj (by decide)) | (simp [actA,actRa] at h4;simp [Ak.num];omega)
 | 1=>rcases hc with rfl | rfl | rfl | rfl | rfl | rfl | rfl | rfl | rfl | rfl | rfl | rfl | rfl | rfl | rfl | rfl | rfl | rfl | rfl | rfl | rfl | rfl | rfl | rfl <;> first | (exact absurd hj (by decide)) | (simp [actB,actRb] at h5;simp [Ak.num];omega)
 | 2=>rcases hc with rfl | rfl | rfl | rfl | rfl | rfl | rfl | rfl | rfl | rfl | rfl | rfl | rfl | rfl | rfl | rfl | rfl | rfl | rfl | rfl | rfl | rfl | rfl | rfl <;> first | (exact absurd hj (by decide)) | (simp [actC] at h6;simp [Ak.num];omega)
 | 3=>rcases hc with rfl | rfl | rfl | rfl | rfl | rfl | rfl | rfl | rfl | rfl | rfl | rfl | rfl | rfl | rfl | rfl | rfl | rfl | rfl | rfl | rfl | rfl | rfl | rfl <;> first | (exact absurd hj (by decide)) | (simp at h3;simp [Ak.num];omega)
 | j+4=>simp [Ak.num]
theorem nums_at(x:Ak)(j:Nat)(hj:j<4)(h:hasL x.op j=true):(numsL x).getD (cntL x.op j) 0=x.num j∧cntL x.op j<(numsL x).length:=by
 unfold numsL cntL
 match j,hj with
 | 0,_=>cases h0:hasL x.op 0 <;> cases h1:hasL x.op 1 <;> cases h2:hasL x.op 2 <;> cases h3:hasL x.op 3 <;> simp_all [List.range,List.range.loop]
 | 1,_=>cases h0:hasL x.op 0 <;> cases h1:hasL x.op 1 <;> cases h2:hasL x.op 2 <;> cases h3:hasL x.op 3 <;> simp_all [List.range,List.range.loop]
 | 2,_=>cases h0:hasL x.op 0 <;> cases h1:hasL x.op 1 <;> cases h2:hasL x.op 2 <;> cases h3:hasL x.op 3 <;> simp_all [List.range,List.range.loop]
 | 3,_=>cases h0:hasL x.op 0 <;> cases h1:hasL x.op 1 <;> cases h2:hasL x.op 2 <;> cases h3:hasL x.op 3 <;> simp_all [List.range,List.range.loop]
theorem sNum_is(x:Ak)(j:Nat)(hj:j<4)(h0:hasL x.op j=false→x.num j=0):sNum x.op ((numsL x).map Lib.itoa) j=x.num j:=by
 unfold sNum;cases h:hasL x.op j
 ·simp [h0 h]
 ·obtain⟨h1,h2⟩:=nums_at x j hj h;rw[if_pos rfl]
  have e:((numsL x).map Lib.itoa).getD (cntL x.op j) []=Lib.itoa (x.num j):=by
   rw[List.getD_eq_getElem?_getD,List.getElem?_map] at *;rw[List.getElem?_eq_getElem h2] at h1 ⊢;simp at h1 ⊢;rw[h1]
  rw[e,numV_itoa]
theorem numB_itoa{n:Int}(h:InI n):numB (Lib.itoa n)=true:=(numB_of ⟨h,rfl⟩).1
theorem act_read{x:Ak}(ok:okA x=true)(ft:x.Fit):actO (lineL x)=some x:=by
 obtain⟨⟨h1,h2⟩,hz⟩:=ok_rest ok;obtain⟨op,hop⟩:∃k:Nat,x.op=(k:Int):=⟨x.op.toNat,by omega⟩
 have hlen:((numsL x).map Lib.itoa).length=(letL (op:Nat)).length:=by
  rw[←cnt_len op (by omega),List.length_map];unfold numsL cntL;rw[List.length_map,hop]
 have ha:actOf op ((numsL x).map Lib.itoa)=x:=by
  rw[←sAct_eq op (by omega) (by omega) _ hlen];unfold sAct;rw[←hop,sNum_is x 0 (by omega) (hz 0),sNum_is x 1 (by omega) (hz 1),sNum_is x 2 (by omega) (hz 2),sNum_is x 3 (by omega) (hz 3)];cases x;rfl
 have ho:opOf (nameL x.op)=some op:=opOf_is (by omega) (by omega) (by rw[hop])
 have hg:actGood op ((numsL x).map Lib.itoa)=true:=by
  unfold actGood;rw[ha,ok];simp only [hlen,decide_true,Bool.true_and,Bool.and_true,List.all_eq_true];intro u hu;obtain⟨n,hn,rfl⟩:=List.mem_map.1 hu;unfold numsL at hn;obtain⟨j,_,rfl⟩:=List.mem_map.1 hn;exact numB_itoa (ft j)
 unfold actO;rw[line_words];simp only [ho,hg,if_true,ha]
theorem nums_back(op:Int)(ws:List (List UInt8))(hl:ws.length=cntL op 4)(hn:∀u∈ws,Lib.itoa (numV u)=u):(numsL ⟨op,sNum op ws 0,sNum op ws 1,sNum op ws 2,sNum op ws 3⟩).map Lib.itoa=ws:=by
 unfold cntL at hl;unfold numsL sNum cntL;cases h0:hasL op 0 <;> cases h1:hasL op 1 <;> cases h2:hasL op 2 <;> cases h3:hasL op 3 <;> simp [List.range,List.range.loop,h0,h1,h2,h3] at hl <;> rcases ws with _ | ⟨u,_ | ⟨v,_ | ⟨t,_ | ⟨s,_ | ⟨z,r⟩⟩⟩⟩⟩ <;> simp at hl <;> simp at hn <;> simp [List.range,List.range.loop,h0,h1,h2,h3,Ak.num,hn]
theorem num_in(ws:List (List UInt8))(hn:∀u∈ws,InI (numV u))(k:Nat):InI (numV (ws.getD k [])):=by
 rw[List.getD_eq_getElem?_getD];cases q:ws[k]? with
 | none=>simp [numV,valF,InI]
 | some u=>simpa using hn u (List.mem_of_getElem? q)
theorem act_back{line:List UInt8}{x:Ak}(h:actO line=some x):okA x=true∧lineL x=line∧x.Fit:=by
 unfold actO at h;cases hw:wordsL line with
 | nil=>exact absurd hw (words_ne line)
 | cons w0 ws=>
  rw[hw] at h;simp only at h;cases ho:opOf w0 with
  | none=>rw[ho] at h;simp at h
  | some op=>
   rw[ho] at h;simp only at h;by_cases hg:actGood op ws=true
   ·rw[if_pos hg] at h;have e:actOf op ws=x:=by simpa using h
    obtain⟨o1,o2,o3⟩:=opOf_some ho;unfold actGood at hg;simp only [Bool.and_eq_true,decide_eq_true_eq] at hg;obtain⟨g1,g2,g3⟩:=hg;rw[e] at g3;have es:=sAct_eq op o1 o2 ws g1;rw[e] at es
    have hn:∀u∈ws,Lib.itoa (numV u)=u∧InI (numV u):=fun u hu=>by
     have:=(numB_iff u).1 (List.all_eq_true.1 g2 u hu);exact⟨this.2.symm,this.1⟩
    have hx:x.op=(op:Int):=by rw[←es];rfl
    have hnum:(numsL x).map Lib.itoa=ws:=by
     rw[←es];exact nums_back _ ws (by rw[g1,cnt_len op o2]) (fun u hu=>(hn u hu).1)
    refine⟨g3,?_,?_⟩
    ·have j:=join_words line;rw[hw,join_nums,←o3] at j;rw[←j];unfold lineL;rw[fld_nums,←hnum,hx];simp [List.flatMap_map]
    ·have hs:∀j,InI (sNum op ws j):=fun j=>by
      unfold sNum
      split
      ·exact num_in ws (fun u hu=>(hn u hu).2) _
      ·simp [InI]
     intro j;rw[←es]
     match j with
     | 0=>exact hs 0
     | 1=>exact hs 1
     | 2=>exact hs 2
     | 3=>exact hs 3
     | j+4=>simp [sAct,Ak.num]
   ·rw[if_neg hg] at h;simp at h
def linesL(xs:List Ak):List UInt8:=xs.flatMap (fun x=>lineL x++[10])
theorem lines_cons(x:Ak)(xs:List Ak):linesL (x::xs)=lineL x++10::linesL xs:=by simp [linesL]
theorem acts_read(room:Int):∀(xs acc:List Ak) (n fuel:Nat),(linesL xs).length≤fuel→(acc++xs).length≤1000→(∀x∈xs,okA x=true∧x.Fit)→rdActs room fuel n acc (linesL xs)=.good room (acc++xs)
 | [],acc,n,fuel,_,_,_=>by simp only [linesL,List.flatMap_nil,List.append_nil];exact rdActs_end room fuel n acc
 | x::xs,acc,n,fuel,hf,hl,hx=>by
  have h1:=hx x (by simp);have hc:cutN (linesL (x::xs))=some (lineL x,linesL xs):=by rw[lines_cons];exact cutN_app _ _ (line_chars x)
  have ll:=cutN_len hc;rw[rdActs_step hf hc (by simp at hl;omega) (act_read h1.1 h1.2)];have:=acts_read room xs (acc++[x]) (n+1) (fuel-1) (by omega) (by simpa using hl) (fun y hy=>hx y (by simp [hy]))
  simpa using this
theorem acts_back(room:Int):∀(fuel n:Nat) (acc:List Ak) (rest:List UInt8) (r:Rd),rdActs room fuel n acc rest=r→r.ok=true→rest.length≤fuel→acc.length≤1000→
  ∃xs,r=.good room (acc++xs)∧rest=linesL xs∧(acc++xs).length≤1000∧∀x∈xs,okA x=true∧x.Fit
 | 0,n,acc,rest,r,h,ok,hf,ha=>by
  have e:rest=[]:=List.eq_nil_of_length_eq_zero (by omega);exact⟨[],by rw[←h];simp [rdActs],by rw[e];rfl,by simpa using ha,by simp⟩
 | fuel+1,n,acc,rest,r,h,ok,hf,ha=>by
  unfold rdActs at h;by_cases e:rest=[]
  ·rw[if_pos e] at h;exact⟨[],by rw[←h];simp,by rw[e];rfl,by simpa using ha,by simp⟩
  ·rw[if_neg e] at h;cases hc:cutN rest with
   | none=>rw[hc] at h;simp only at h;rw[←h] at ok;simp [Rd.bad] at ok
   | some p=>
    obtain⟨line,rest'⟩:=p;rw[hc] at h;simp only at h;by_cases hl:acc.length<1000
    ·rw[if_pos hl] at h;cases hx:actO line with
     | none=>rw[hx] at h;simp only at h;rw[←h] at ok;simp [Rd.bad] at ok
     | some x=>
      rw[hx] at h;simp only at h;have ll:=cutN_len hc;obtain⟨xs,e1,e2,e3,e4⟩:=acts_back room fuel (n+1) (acc++[x]) rest' r h ok (by omega) (by simp;omega);obtain⟨b1,b2,b3⟩:=act_back hx;refine⟨x::xs,by rw[e1];simp,?_,by simpa using e3,fun y hy=>?_⟩
      ·rw[lines_cons,b2,←e2];exact cutN_is hc
      ·rcases List.mem_cons.1 hy with q | q
       ·rw[q];exact⟨b1,b3⟩
       ·exact e4 y q
    ·rw[if_neg hl] at h;rw[←h] at ok;simp [Rd.bad] at ok
theorem room_read{room:Int}(h:1≤room∧room≤4000):roomO ([114,111,111,109,32]++Lib.itoa room)=some room:=by
 have hw:wordsL ([114,111,111,109,32]++Lib.itoa room)=[[114,111,111,109],Lib.itoa room]:=by
  have:=words_app [114,111,111,109] (Lib.itoa room) (by decide);rw[words_lone _ (fun c hc=>(itoa_chars room c hc).1)] at this;exact this
 have hi:InI room:=⟨by omega,by omega⟩
 have hg:roomGood (Lib.itoa room)=true:=by
  unfold roomGood;rw[numB_itoa hi,numV_itoa];simp [h.1,h.2]
 unfold roomO;rw[hw];simp only [hg,numV_itoa];simp
theorem room_back{line:List UInt8}{room:Int}(h:roomO line=some room):line=[114,111,111,109,32]++Lib.itoa room∧1≤room∧room≤4000:=by
 unfold roomO at h
 split at h
 ·rename_i w0 r hw
  split at h
  ·rename_i hg;have e:numV r=room:=by simpa using h
   have hr:=hg.2;unfold roomGood at hr;simp only [Bool.and_eq_true,decide_eq_true_eq] at hr;have hn:=(numB_iff r).1 hr.1;have h0:w0=[114,111,111,109]:=by simpa using hg.1
   refine⟨?_,by omega,by omega⟩;have j:=join_words line;rw[hw] at j;rw[←j,h0];have:r=Lib.itoa room:=by rw[←e];exact hn.2
   rw[←this];rfl
  ·simp at h
 ·simp at h
theorem text_read{room:Int}{xs:List Ak}(h:writeB room xs=true)(ft:∀x∈xs,x.Fit):rdText (textL room xs)=.good room xs:=by
 unfold writeB at h;simp only [Bool.and_eq_true,decide_eq_true_eq,List.all_eq_true] at h;obtain⟨h1,h2,h3,h4⟩:=h;have hr:1≤room∧room≤4000:=by unfold l1inB at h1;simpa using h1
 have e:textL room xs=([114,111,111,109,32]++Lib.itoa room)++10::linesL xs:=by simp [textL,roomL,linesL]
 have hc:cutN (textL room xs)=some ([114,111,111,109,32]++Lib.itoa room,linesL xs):=by
  rw[e];refine cutN_app _ _ (fun c hc=>?_);rcases List.mem_append.1 hc with q | q
  ·simp at q;rcases q with q | q | q | q <;> rw[q] <;> decide
  ·exact(itoa_chars room c q).2
 unfold rdText;rw[if_neg (by omega),hc];simp only [room_read hr];have:=acts_read room xs [] 1 (linesL xs).length (Nat.le_refl _) (by simpa using h2) (fun x hx=>⟨h3 x hx,ft x hx⟩)
 simpa using this
theorem text_back{tx:List UInt8}(ok:(rdText tx).ok=true):∃room xs,rdText tx=.good room xs∧writeL room xs=tx∧∀x∈xs,x.Fit:=by
 obtain⟨r,hr⟩:∃r,rdText tx=r:=⟨_,rfl⟩;rw[hr] at ok ⊢;unfold rdText at hr;by_cases h1:20000<tx.length
 ·rw[if_pos h1] at hr;rw[←hr] at ok;simp [Rd.bad] at ok
 ·rw[if_neg h1] at hr;cases hc:cutN tx with
  | none=>rw[hc] at hr;simp only at hr;rw[←hr] at ok;simp [Rd.bad] at ok
  | some p=>
   obtain⟨line,rest⟩:=p;rw[hc] at hr;simp only at hr;cases ho:roomO line with
   | none=>rw[ho] at hr;simp only at hr;rw[←hr] at ok;simp [Rd.bad] at ok
   | some room=>
    rw[ho] at hr;simp only at hr;obtain⟨xs,e1,e2,e3,e4⟩:=acts_back room rest.length 1 [] rest r hr ok (Nat.le_refl _) (by simp);obtain⟨b1,b2,b3⟩:=room_back ho;simp only [List.nil_append] at e1 e3
    have et:textL room xs=tx:=by
     rw[cutN_is hc,b1,e2];simp [textL,roomL,linesL]
    refine⟨room,xs,e1,?_,fun x hx=>(e4 x hx).2⟩;unfold writeL;rw[if_pos]
    ·exact et
    ·unfold writeB l1inB;rw[et];simp only [Bool.and_eq_true,decide_eq_true_eq,List.all_eq_true];exact⟨by simpa using ⟨b2,b3⟩,e3,fun x hx=>(e4 x hx).1,by omega⟩
theorem drawW_any(w:World)(u:Value)(hu:ByAt w u):
  Calls Tryz.prog 4 #[u] w fun e w'=>RwPost w w.heap.size 999999 e w':=by
 go_enter Tryz.func4,Tryz.ntmps4;go_wp2_with fail;refine(drawn_any w u hu).mono ?_;rintro e w3 ⟨room,va,L,m,he,hr,rw,hm⟩;have e2:=unhide he;subst e2;clear he;go_wp2_with fail;go_ret2;exact⟨room,va,L,m,rfl,unhide hr,unhide rw,by omega⟩
theorem drawR_any(w:World)(u:Value)(hu:ByAt w u):
  Calls Tryz.prog 9 #[u] w fun e w'=>∃l:List UInt8,Hid (e=.returned (.string ⟨l.toArray⟩))∧Hid (l.length≤999999)∧Ext w w':=by
 go_enter Tryz.func9,Tryz.ntmps9;go_wp2_with fail;refine(text6_any w u hu).mono ?_;rintro e w3 ⟨l,he,hl,x⟩;have e2:=unhide he;subst e2;clear he;go_wp2_with fail;go_ret;exact⟨l,rfl,unhide hl,x⟩
theorem writeL_len(room:Int)(xs:List Ak):(writeL room xs).length≤20000:=by
 unfold writeL
 split
 ·rename_i h;unfold writeB at h;simp at h;exact h.2.2.2
 ·simp
theorem ByAt.on{w w':World}{u:Value}(h:ByAt w u)(e:Ext w w'):ByAt w' u:=by
 obtain⟨ad,n,k,rfl,hn,hx⟩:=h;exact⟨ad,n,k,rfl,hn,fun i hi=>let ⟨b,o,z,e1,c,r⟩:=hx i hi;⟨b,o,z,e1,e.keep c,r⟩⟩
theorem text_back2{tx:List UInt8}(ok:(rdText tx).ok=true):∃room xs,rdText tx=.good room xs∧writeL room xs=tx∧(∀x∈xs,x.Fit)∧-9223372036854775808≤room∧room≤9223372036854775807:=by
 obtain⟨room,xs,h1,h2,h3⟩:=text_back ok;refine⟨room,xs,h1,h2,h3,?_⟩;by_cases hb:writeB room xs=true
 ·unfold writeB at hb;simp only [Bool.and_eq_true] at hb;have:=hb.1;unfold l1inB at this;simp at this;omega
 ·have e:writeL room xs=[]:=if_neg hb;rw[e] at h2;subst h2;cases ok
def VrS(w:World)(b:Nat)(R:Rd)(v:Value):Prop:=w.cell? ⟨b,0,none⟩=some (.bool R.ok)∧w.cell? ⟨b,1,none⟩=some (.int .i64 R.ln)∧w.cell? ⟨b,2,none⟩=some (.int .i64 R.rm)∧w.cell? ⟨b,3,none⟩=some v
theorem VrS.ext{w w':World}{b:Nat}{R:Rd}{v:Value}(h:VrS w b R v)(e:Ext w w'):VrS w' b R v:=⟨e.keep h.1,e.keep h.2.1,e.keep h.2.2.1,e.keep h.2.2.2⟩
theorem pt4_var(w:World)(R:Rd)(v:Value):VrS (w.alloc (.cells #[.bool R.ok,.int .i64 R.ln,.int .i64 R.rm,v] 28)) w.heap.size R v:=by
 unfold VrS;exact⟨by simp [go_sem],by simp [go_sem],by simp [go_sem],by simp [go_sem]⟩
theorem own_fm{B:Nat}{w:World}{v:Value}{n:Nat}{l:List Value}(h:w.ownsRow B 43 5 v n l):∃ad cap,v=.slice ad n cap:=by
 rcases h.2 with⟨h1,h2⟩ | ⟨g,cap,_,h1,_⟩
 ·exact⟨none,0,by rw[h1,h2]⟩
 ·exact⟨_,_,h1⟩
theorem wnLaw_in(w:World)(u:Value)(hu:ByAt w u)(ht:Tab w)(hL:LibAt w):
  Calls Tryz.prog 3 #[u] w fun e w'=>e=.returned (.bool true)∧Ext w w':=by
 have HT:=hide ht;have HL:=hide hL;have QW:=hide (drawW_any w u hu);have BU:=hide hu;obtain⟨au,nu,ku,rfl,hnu,_⟩:=hu;clear ht hL;go_enter Tryz.func3,Tryz.ntmps3;go_wp2_with fail;refine(unhide QW).mono ?_;rintro e w1 ⟨room,va,L,m,he,hr,rw,hm⟩;have e2:=unhide he;subst e2;have RW:=hide (unhide rw);have HR:=hide (unhide hr);have x1:Ext w w1:=(unhide rw).cu.1;have SL:=hide (ownA (unhide rw).ow (by have:=(unhide rw).hl;omega));have HF:=hide (show ∀x∈L,x.Fit from fun x hx=>((unhide rw).hL x hx).fit);have HN:=hide (show L.length≤1048576 by have:=(unhide rw).hl;omega);clear he hr rw QW hm;go_wp2_with fail;refine(implWrite_any room L va w1 (unhide HR).1 (unhide HR).2 (unhide SL) (unhide HF) (unhide HN) ((unhide HT).ext x1)).mono ?_;rintro e w2 ⟨rfl,q2⟩;go_wp2_with fail;refine(specWrite_any room L va w2 (unhide HR).1 (unhide HR).2 (SlA.ext q2 (unhide SL)) (unhide HF) (unhide HN)).mono ?_;rintro e w3 ⟨rfl,q3⟩;have x3:=(x1.trans q2).trans q3;have SL3:=hide (SlA.ext (q2.trans q3) (unhide SL));clear SL
 go_upto_if 28 with(fail)
 go_cut [] (fun wx=>Hid (Ext w wx))
 case first=>
  have LN:=hide (writeL_len room L);by_cases hb:writeB room L=true
  ·have el:writeL room L=textL room L:=if_pos hb;have h0:0<(writeL room L).length:=by rw[el];unfold textL roomL;simp
   have RD:rdText (writeL room L)=.good room L:=by rw[el];exact text_read hb (unhide HF)
   have QI:=hide (implRead_any w3 (writeL room L) (by have:=unhide LN;omega) ((unhide HT).ext x3) ((unhide HL).ext x3));rw[RD] at QI;clear LN RD el hb;go_wp2_with fail;refine(unhide QI).mono ?_;rintro e w4 ⟨v4,he,o4,q4⟩;have e2:=unhide he;subst e2;have SL4:=hide (ownA (unhide o4) (unhide HN));obtain⟨a4,c4,hv4⟩:=own_fm (unhide o4);subst hv4;clear he o4 QI;unfold Rd.v Rd.good;go_wp2_with fail;have xa:Ext w4 (w4.alloc (.cells #[.bool true,.int .i64 0,.int .i64 room,.slice a4 L.length c4] 28)):=(Ext.refl w4).alloc _;refine(wActs_same L _ va _ (SlA.ext xa (unhide SL4)) (SlA.ext (q4.trans xa) (unhide SL3))).mono ?_;rintro e w5 ⟨rfl,q5⟩;go_wp2_with fail;go_meet;exact((x3.trans q4).trans xa).trans q5
  ·have el:(writeL room L).length=0:=by rw[show writeL room L=[] from if_neg hb];rfl
   go_wp2_with fail;go_meet;exact x3
 case rest=>
  obtain⟨W,hW⟩:∃W,W=wc:=⟨_,rfl⟩;subst hW;have XW:=hide (unhide hcut);clear hcut SL3 HF HN HR RW q2 q3 x3 x1;go_wp2_with fail;refine(drawR_any W _ ((unhide BU).on (unhide XW))).mono ?_;rintro e w4 ⟨tx,he,hl,q4⟩;have e2:=unhide he;subst e2;have LT:=hide (show tx.length≤1048576 by have:=unhide hl;omega);have X4:=hide ((unhide XW).trans q4);clear he hl;have TB:=hide (fun(ok:(rdText tx).ok=true)=>text_back2 ok);have n1:=rdText_len tx;have QS:=hide (fun W=>specRead_any tx (unhide LT) W);have QI:=hide (fun W a b=>implRead_any W tx (unhide LT) a b);obtain⟨R,hR⟩:∃R,R=rdText tx:=⟨_,rfl⟩;rw[←hR] at n1 QS QI TB;clear hR;have n2:R.acts.length≤1048576:=by omega
  go_wp2_with fail;refine(unhide QI w4 ((unhide HT).ext (unhide X4)) ((unhide HL).ext (unhide X4))).mono ?_;rintro e w5 ⟨v5,he,o5,q5⟩;have e2:=unhide he;subst e2;have SL5:=hide (ownA (unhide o5) n2);obtain⟨a5,c5,hv5⟩:=own_fm (unhide o5);subst hv5;clear he o5 QI;unfold Rd.v;go_wp2_with fail;obtain⟨wA,hA⟩:∃V,V=w5.alloc (.cells #[.bool R.ok,.int .i64 R.ln,.int .i64 R.rm,.slice a5 R.acts.length c5] 28):=⟨_,rfl⟩;have VA:=hide (hA ▸ pt4_var w5 R (.slice a5 R.acts.length c5):VrS wA w5.heap.size R (.slice a5 R.acts.length c5));have xA:Ext w5 wA:=by rw[hA];exact(Ext.refl _).alloc _
  have sA:wA.heap.size=w5.heap.size+1:=by rw[hA];simp
  rw[←hA];clear hA;refine(unhide QS wA).mono ?_;rintro e w6 ⟨v6,he,o6,q6⟩;have e2:=unhide he;subst e2;have SL6:=hide (ownA (unhide o6) n2);obtain⟨a6,c6,hv6⟩:=own_fm (unhide o6);subst hv6;have s6:=q6.size;have V6:=hide ((unhide VA).ext q6);clear he o6 QS VA;obtain⟨u0,u1,u2,u3⟩:=unhide V6;have hlt:w5.heap.size<w6.heap.size:=by omega
  unfold Rd.v;go_wp2_with fail;have xB:Ext w6 (w6.alloc (.cells #[.bool R.ok,.int .i64 R.ln,.int .i64 R.rm,.slice a6 R.acts.length c6] 28)):=(Ext.refl w6).alloc _;refine(wActs_same R.acts _ _ _ (SlA.ext ((xA.trans q6).trans xB) (unhide SL5)) (SlA.ext xB (unhide SL6))).mono ?_;rintro e w7 ⟨rfl,q7⟩;have x57:=((xA.trans q6).trans xB).trans q7;have X7:=hide (((unhide X4).trans q5).trans x57);have SL7:=hide (SlA.ext x57 (unhide SL5));have V7:=hide ((unhide V6).ext (xB.trans q7));clear u0 u1 u2 u3 V6 SL5 SL6;obtain⟨u0,u1,u2,u3⟩:=unhide V7;cases hok:R.ok
  ·rw[hok] at u0;go_wp2_with fail;go_ret;exact⟨rfl,unhide X7⟩
  ·obtain⟨rm,xs,e1,e2,e3,e4,e5⟩:=unhide TB hok;rw[e1] at u0 u1 u2 u3 SL7 n1 n2;subst e2;have F:=hide e3;clear e1 e3 TB;dsimp only [Rd.good] at u0 u1 u2 u3 SL7 n1 n2;go_wp2_with fail;refine(implWrite_any rm xs _ w7 e4 e5 (unhide SL7) (unhide F) n2 ((unhide HT).ext (unhide X7))).mono ?_;rintro e w8 ⟨rfl,q8⟩;go_wp2_with fail;go_ret;exact⟨rfl,(unhide X7).trans q8⟩
end Go.Proofs.YtnegjhddmfiefaaGreatDoor
