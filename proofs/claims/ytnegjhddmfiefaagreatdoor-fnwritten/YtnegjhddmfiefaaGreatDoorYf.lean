import Derived.Test.YtnegjhddmfiefaaGreatDoorXg0
set_option maxRecDepth 100000
set_option maxHeartbeats 1000000
namespace Go.Proofs.YtnegjhddmfiefaaGreatDoor
open Go.RowKit
attribute [local go_sem ↓] Go.wp_at_zero Go.wp_at_succ
def cutN:List UInt8→Option (List UInt8×List UInt8)
 | []=>none
 | c::r=>if c=10 then some ([],r) else (cutN r).map (fun x=>(c::x.1,x.2))
def wordsL:List UInt8→List (List UInt8)
 | []=>[[]]
 | c::r=>if c=32 then []::wordsL r else match wordsL r with
  | []=>[[c]]
  | h::t=>(c::h)::t
theorem words_ne(l:List UInt8):wordsL l≠[]:=by
 cases l with
 | nil=>simp [wordsL]
 | cons c r=>
  unfold wordsL
  split
  ·simp
  ·split <;> simp
theorem cutN_len{l a b:List UInt8}(h:cutN l=some (a,b)):l.length=a.length+1+b.length:=by
 induction l generalizing a b with
 | nil=>simp [cutN] at h
 | cons c r ih=>
  unfold cutN at h
  split at h
  ·cases h;simp;omega
  ·cases q:cutN r with
   | none=>rw[q] at h;simp at h
   | some x=>
    rw[q] at h;simp at h;obtain⟨rfl,rfl⟩:=h;have:=ih q;simp;omega
def valF(acc:Nat)(l:List UInt8):Nat:=l.foldl (fun a c=>a*10+(c.toNat-48)) acc
def Dig(c:UInt8):Prop:=48≤c.toNat∧c.toNat≤57
theorem valF_app(acc:Nat)(l:List UInt8)(c:UInt8):valF acc (l++[c])=valF acc l*10+(c.toNat-48):=by unfold valF;rw[List.foldl_append];rfl
theorem dig_ofNat(u:Nat)(h:u<10):(UInt8.ofNat (48+u)).toNat=48+u:=by simp [UInt8.toNat_ofNat'];omega
theorem dec_val(u:Nat):valF 0 (Lib.decDigits u)=u∧(∀c∈Lib.decDigits u,Dig c)∧Lib.decDigits u≠[]:=by
 induction u using Nat.strongRecOn with
 | _ u ih=>
  rw[Lib.decDigits];by_cases h:u<10
  ·rw[dif_pos h];refine⟨?_,?_,by simp⟩
   ·simp [valF];omega
   ·intro c hc;rw[List.mem_singleton.1 hc];unfold Dig;rw[dig_ofNat u h];omega
  ·rw[dif_neg h];have hi:=ih (u / 10) (by omega);have hd:=dig_ofNat (u % 10) (by omega);refine⟨?_,?_,by simp⟩
   ·rw[valF_app,hi.1,hd];omega
   ·intro c hc;rcases List.mem_append.1 hc with hc | hc
    ·exact hi.2.1 c hc
    ·rw[List.mem_singleton.1 hc];unfold Dig;rw[hd];omega
def numV(l:List UInt8):Int:=if l.head?=some 45 then -(valF 0 l.tail:Int) else (valF 0 l:Int)
def InI(n:Int):Prop:=-9223372036854775808≤n∧n≤9223372036854775807
theorem numV_itoa(n:Int):numV (Lib.itoa n)=n:=by
 unfold numV Lib.itoa;by_cases h:n<0
 ·rw[if_pos h];simp only [List.head?_cons,if_true,List.tail_cons];rw[(dec_val n.natAbs).1];omega
 ·rw[if_neg h];have hd:=dec_val n.toNat;rw[if_neg,hd.1]
  ·omega
  ·intro e;cases q:Lib.decDigits n.toNat with
   | nil=>exact hd.2.2 q
   | cons c r=>
    rw[q] at e hd;simp at e;have:=hd.2.1 c (List.mem_cons_self ..);unfold Dig at this;rw[e] at this;exact absurd this.1 (by decide)
def NumIs(l:List UInt8)(n:Int):Prop:=InI n∧l=Lib.itoa n
theorem NumIs.val{l:List UInt8}{n:Int}(h:NumIs l n):numV l=n:=by rw[h.2];exact numV_itoa n
def numB(l:List UInt8):Bool:=decide (-9223372036854775808≤numV l) && (decide (numV l≤9223372036854775807) && (l == Lib.itoa (numV l)))
theorem numB_iff(l:List UInt8):numB l=true↔NumIs l (numV l):=by
 unfold numB NumIs InI;simp [and_assoc]
theorem numB_of{l:List UInt8}{n:Int}(h:NumIs l n):numB l=true∧numV l=n:=⟨(numB_iff l).2 (by rw[h.val];exact h),h.val⟩
theorem itoa_bytes(n:Int)(i:Nat)(c:UInt8)(h:(Lib.itoa n)[i]?=some c):Dig c∨(i=0∧c=45):=by
 unfold Lib.itoa at h;by_cases hn:n<0
 ·rw[if_pos hn] at h;cases i with
  | zero=>simp at h;exact .inr ⟨rfl,h.symm⟩
  | succ i=>
   rw[List.getElem?_cons_succ] at h;exact .inl ((dec_val n.natAbs).2.1 c (List.mem_of_getElem? h))
 ·rw[if_neg hn] at h;exact .inl ((dec_val n.toNat).2.1 c (List.mem_of_getElem? h))
def opOf(wd:List UInt8):Option Nat:=(List.range 25).find? (fun k=>decide (1≤k) && (nameL (k:Nat) == wd))
theorem opOf_some{wd:List UInt8}{k:Nat}(h:opOf wd=some k):1≤k∧k≤24∧nameL (k:Nat)=wd:=by
 unfold opOf at h;have h1:=List.find?_some h;have h2:=List.mem_of_find?_eq_some h;rw[List.mem_range] at h2;simp at h1;exact⟨h1.1,by omega,h1.2⟩
theorem opOf_none{wd:List UInt8}(h:opOf wd=none)(k:Nat)(h1:1≤k)(h2:k≤24):nameL (k:Nat)≠wd:=by
 unfold opOf at h;rw[List.find?_eq_none] at h;have:=h k (List.mem_range.2 (by omega));simp at this;exact this h1
theorem names_apart:(List.range 25).all (fun i=>(List.range 25).all (fun j=>decide (i=0) || (decide (j=0) || (decide (i=j) || !(nameL (i:Nat) == nameL (j:Nat))))))=true:=by decide +kernel
theorem name_inj{i j:Nat}(hi:1≤i)(hi2:i≤24)(hj:1≤j)(hj2:j≤24)(h:nameL (i:Nat)=nameL (j:Nat)):i=j:=by
 have h1:=List.all_eq_true.1 names_apart i (List.mem_range.2 (by omega));have h2:=List.all_eq_true.1 h1 j (List.mem_range.2 (by omega));have a:¬i=0:=by omega
 have b:¬j=0:=by omega
 rw[h] at h2
 simpa [a,b] using h2
theorem opOf_is{wd:List UInt8}{k:Nat}(h1:1≤k)(h2:k≤24)(h:nameL (k:Nat)=wd):opOf wd=some k:=by
 cases q:opOf wd with
 | none=>exact absurd h (opOf_none q k h1 h2)
 | some j=>
  obtain⟨a,b,c⟩:=opOf_some q;rw[name_inj a b h1 h2 (c.trans h.symm)]
def Ak.put(x:Ak)(c:Int)(n:Int):Ak:=if c=65 then { x with a:=n } else if c=66 then { x with b:=n } else if c=67 then { x with c:=n } else { x with n:=n }
def mkAct(op:Int)(l:List (UInt8×Int)):Ak:=l.foldl (fun x p=>x.put (p.1.toNat:Int) p.2) ⟨op,0,0,0,0⟩
def actOf(op:Nat)(ws:List (List UInt8)):Ak:=mkAct op ((letL (op:Nat)).zip (ws.map numV))
def actGood(op:Nat)(ws:List (List UInt8)):Bool:=decide (ws.length=(letL (op:Nat)).length) && (ws.all numB && okA (actOf op ws))
def actO(line:List UInt8):Option Ak:=match wordsL line with
 | []=>none
 | w0::ws=>match opOf w0 with
  | none=>none
  | some op=>if actGood op ws=true then some (actOf op ws) else none
def roomGood(r:List UInt8):Bool:=numB r && (decide (1≤numV r) && decide (numV r≤4000))
def roomO(line:List UInt8):Option Int:=match wordsL line with
 | [w0,r]=>if (w0 == [114,111,111,109])=true∧roomGood r=true then some (numV r) else none
 | _=>none
structure Rd where
 ok:Bool
 ln:Nat
 rm:Int
 acts:List Ak
def Rd.good(room:Int)(acts:List Ak):Rd:=⟨true,0,room,acts⟩
def Rd.bad(n:Nat):Rd:=⟨false,n,0,[]⟩
def rdActs(room:Int):Nat→Nat→List Ak→List UInt8→Rd
 | 0,_,acc,_=>.good room acc
 | fuel+1,n,acc,rest=>if rest=[] then .good room acc else match cutN rest with
  | none=>.bad (n+1)
  | some (line,rest')=>if acc.length<1000 then match actO line with
   | none=>.bad (n+1)
   | some a=>rdActs room fuel (n+1) (acc++[a]) rest'
  else .bad (n+1)
def rdText(tx:List UInt8):Rd:=if 20000<tx.length then .bad 0 else match cutN tx with
 | none=>.bad 1
 | some (line,rest)=>match roomO line with
  | none=>.bad 1
  | some room=>rdActs room rest.length 1 [] rest
def Rd.v(r:Rd)(acts:Value):Value:=.agg #[.bool r.ok,.int .i64 r.ln,.int .i64 r.rm,acts]
theorem rdActs_end(room:Int)(fuel n:Nat)(acc:List Ak):rdActs room fuel n acc []=.good room acc:=by
 cases fuel <;> simp [rdActs]
theorem rdActs_step{room:Int}{fuel n:Nat}{acc:List Ak}{rest line rest':List UInt8}{a:Ak}(hf:rest.length≤fuel)(h1:cutN rest=some (line,rest'))(h2:acc.length<1000)(h3:actO line=some a):rdActs room fuel n acc rest=rdActs room (fuel-1) (n+1) (acc++[a]) rest':=by
 have hl:=cutN_len h1;obtain⟨f,rfl⟩:∃f,fuel=f+1:=⟨fuel-1,by omega⟩;have hne:rest≠[]:=fun e=>by rw[e] at h1;simp [cutN] at h1
 simp [rdActs,hne,h1,h2,h3]
theorem rdActs_cut{room:Int}{fuel n:Nat}{acc:List Ak}{rest:List UInt8}(hf:rest.length≤fuel)(hne:rest≠[])(h1:cutN rest=none):rdActs room fuel n acc rest=.bad (n+1):=by
 obtain⟨f,rfl⟩:∃f,fuel=f+1:=⟨fuel-1,by have:=List.length_pos_iff.2 hne;omega⟩;simp [rdActs,hne,h1]
theorem rdActs_many{room:Int}{fuel n:Nat}{acc:List Ak}{rest line rest':List UInt8}(hf:rest.length≤fuel)(h1:cutN rest=some (line,rest'))(h2:¬acc.length<1000):rdActs room fuel n acc rest=.bad (n+1):=by
 have hl:=cutN_len h1;obtain⟨f,rfl⟩:∃f,fuel=f+1:=⟨fuel-1,by omega⟩;have hne:rest≠[]:=fun e=>by rw[e] at h1;simp [cutN] at h1
 simp [rdActs,hne,h1,h2]
theorem rdActs_no{room:Int}{fuel n:Nat}{acc:List Ak}{rest line rest':List UInt8}(hf:rest.length≤fuel)(h1:cutN rest=some (line,rest'))(h3:actO line=none):rdActs room fuel n acc rest=.bad (n+1):=by
 have hl:=cutN_len h1;obtain⟨f,rfl⟩:∃f,fuel=f+1:=⟨fuel-1,by omega⟩;have hne:rest≠[]:=fun e=>by rw[e] at h1;simp [cutN] at h1
 simp [rdActs,hne,h1,h3]
def cntL(op:Int)(i:Nat):Nat:=((List.range i).filter (fun j=>hasL op j)).length
def sNum(op:Int)(ws:List (List UInt8))(j:Nat):Int:=if hasL op j=true then numV (ws.getD (cntL op j) []) else 0
def sAct(op:Nat)(ws:List (List UInt8)):Ak:=⟨op,sNum op ws 0,sNum op ws 1,sNum op ws 2,sNum op ws 3⟩
theorem cnt_yes(op:Int)(k:Nat)(h:hasL op k=true):cntL op (k+1)=cntL op k+1:=by
 unfold cntL;rw[List.range_succ,List.filter_append];simp [h]
theorem cnt_no(op:Int)(k:Nat)(h:hasL op k=false):cntL op (k+1)=cntL op k:=by
 unfold cntL;rw[List.range_succ,List.filter_append];simp [h]
theorem cnt_all:(List.range 25).all (fun k=>decide (cntL (k:Nat) 4=(letL (k:Nat)).length))=true:=by decide +kernel
theorem cnt_len(op:Nat)(h:op≤24):cntL (op:Nat) 4=(letL (op:Nat)).length:=of_decide_eq_true (List.all_eq_true.1 cnt_all op (List.mem_range.2 (by omega)))
theorem sAct_eq(op:Nat)(h1:1≤op)(h2:op≤24)(ws:List (List UInt8))(hl:ws.length=(letL (op:Nat)).length):sAct op ws=actOf op ws:=by
 have h:=op_cases (op:Int) (by omega) (by omega);have hop:op=1∨op=2∨op=3∨op=4∨op=5∨op=6∨op=7∨op=8∨op=9∨op=10∨op=11∨op=12∨op=13∨op=14∨op=15∨op=16∨op=17∨op=18∨op=19∨op=20∨op=21∨op=22∨op=23∨op=24:=by omega
 clear h h1 h2
 match ws,hl with
 | [],hl=>rcases hop with rfl | rfl | rfl | rfl | rfl | rfl | rfl | rfl | rfl | rfl | rfl | rfl | rfl | rfl | rfl | rfl | rfl | rfl | rfl | rfl | rfl | rfl | rfl | rfl <;> first | (exact absurd hl (by decide)) | rfl
 | [a],hl=>rcases hop with rfl | rfl | rfl | rfl | rfl | rfl | rfl | rfl | rfl | rfl | rfl | rfl | rfl | rfl | rfl | rfl | rfl | rfl | rfl | rfl | rfl | rfl | rfl | rfl <;> first | (exact absurd hl (by decide)) | rfl
 | [a,b],hl=>rcases hop with rfl | rfl | rfl | rfl | rfl | rfl | rfl | rfl | rfl | rfl | rfl | rfl | rfl | rfl | rfl | rfl | rfl | rfl | rfl | rfl | rfl | rfl | rfl | rfl <;> first | (exact absurd hl (by decide)) | rfl
 | [a,b,c],hl=>rcases hop with rfl | rfl | rfl | rfl | rfl | rfl | rfl | rfl | rfl | rfl | rfl | rfl | rfl | rfl | rfl | rfl | rfl | rfl | rfl | rfl | rfl | rfl | rfl | rfl <;> first | (exact absurd hl (by decide)) | rfl
 | a::b::c::d::r,hl=>exact absurd hl (by have:(letL (op:Nat)).length≤3:=getD_len letT 3 (by decide) _;simp;omega)
abbrev sB(l:List UInt8):ByteArray:=⟨l.toArray⟩
def sC(l:List UInt8):List Value:=[.string (sB l)]
theorem infoStr:(Tryz.prog.info? 9).map (fun i=>(i.zero,i.size,i.bytes))=some (some (.string ByteArray.empty),1,16):=by kernel_rfl
theorem words_cons{c:UInt8}{r h:List UInt8}{t:List (List UInt8)}(hc:c≠32)(hw:wordsL r=h::t):wordsL (c::r)=(c::h)::t:=by simp [wordsL,hc,hw]
theorem words_seg(a b:List UInt8)(h:∀c∈a,c≠32):wordsL (a++32::b)=a::wordsL b:=by
 induction a with
 | nil=>simp [wordsL]
 | cons c r ih=>
  have h1:=ih (fun x hx=>h x (List.mem_cons_of_mem _ hx));have h2:=h c (List.mem_cons_self ..);rw[List.cons_append];exact words_cons h2 h1
theorem words_one(a:List UInt8)(h:∀c∈a,c≠32):wordsL a=[a]:=by
 induction a with
 | nil=>rfl
 | cons c r ih=>
  have h1:=ih (fun x hx=>h x (List.mem_cons_of_mem _ hx));have h2:=h c (List.mem_cons_self ..);exact words_cons h2 h1
def WdI(l:List UInt8)(k at_:Nat)(out:List (List UInt8)):Prop:=at_≤k∧(∀c∈(l.take k).drop at_,c≠32)∧out++wordsL (l.drop at_)=wordsL l
theorem WdI.start(l:List UInt8):WdI l 0 0 []:=⟨Nat.le_refl _,by simp,by simp⟩
theorem take_drop_succ(l:List UInt8)(k a:Nat)(hk:k<l.length)(ha:a≤k):(l.take (k+1)).drop a=(l.take k).drop a++[l[k]]:=by
 rw[List.take_succ_eq_append_getElem hk,List.drop_append_of_le_length (by simp;omega)]
theorem WdI.on{l:List UInt8}{k a:Nat}{out:List (List UInt8)}(h:WdI l k a out)(hk:k<l.length)(hc:l[k]≠32):WdI l (k+1) a out:=by
 refine⟨by have:=h.1;omega,fun c hx=>?_,h.2.2⟩;rw[take_drop_succ l k a hk h.1] at hx;rcases List.mem_append.1 hx with hx | hx
 ·exact h.2.1 c hx
 ·rw[List.mem_singleton.1 hx];exact hc
theorem seg_split(l:List UInt8)(k a:Nat)(hk:k<l.length)(ha:a≤k):l.drop a=(l.take k).drop a++l[k]::l.drop (k+1):=by
 have h1:l=l.take k++l.drop k:=(List.take_append_drop k l).symm;have h2:l.drop k=l[k]::l.drop (k+1):=List.drop_eq_getElem_cons hk;have h3:(l.take k++l.drop k).drop a=(l.take k).drop a++l.drop k:=List.drop_append_of_le_length (by simp;omega);rw[←h1] at h3;rw[h3,h2]
theorem WdI.cut{l:List UInt8}{k a:Nat}{out:List (List UInt8)}(h:WdI l k a out)(hk:k<l.length)(hc:l[k]=32):WdI l (k+1) (k+1) (out++[(l.take k).drop a]):=by
 refine⟨Nat.le_refl _,fun c hx=>?_,?_⟩
 ·have:(l.take (k+1)).drop (k+1)=[]:=List.drop_eq_nil_of_le (by simp;omega);rw[this] at hx;simp at hx
 ·have h1:=h.2.2;rw[seg_split l k a hk h.1,hc,words_seg _ _ h.2.1] at h1;rw[←h1];simp
theorem WdI.done{l:List UInt8}{a:Nat}{out:List (List UInt8)}(h:WdI l l.length a out):out++[(l.take l.length).drop a]=wordsL l:=by
 have h1:=h.2.1;rw[List.take_length] at h1 ⊢;rw[←h.2.2,words_one _ h1]
theorem WdI.len{l:List UInt8}{k a:Nat}{out:List (List UInt8)}(h:WdI l k a out):out.length≤l.length+1:=by
 have hw:∀m:List UInt8,(wordsL m).length≤m.length+1:=by
  intro m
  induction m with
  | nil=>simp [wordsL]
  | cons c r ih=>
   unfold wordsL
   split
   ·simp;omega
   ·split
    ·simp
    ·rename_i q;rw[q] at ih;simp at ih ⊢;omega
 have h1:=congrArg List.length h.2.2;rw[List.length_append] at h1;have:=hw l;omega
theorem sub_str(l:List UInt8)(a b:Nat):(sB l).extract a b=sB ((l.take b).drop a):=by
 apply ByteArray.ext;simp [sB,List.drop_take]
theorem own_strs{w:World}{B:Nat}{v:Value}{L:List (List UInt8)}(h:w.ownsRow B 9 1 v L.length (L.flatMap sC)):∃ad cap,v=.slice ad L.length cap∧∀i (hi:i<L.length),∃g,ad=some ⟨g,0,none⟩∧w.cell? ⟨g,i,none⟩=some (.string (sB L[i])):=by
 obtain⟨ad,cap,e,_,hx⟩:=own_cells (f:=sC) (fun _=>rfl) h;refine⟨ad,cap,e,fun i hi=>?_⟩;obtain⟨g,ea,_,hg,hc⟩:=hx i hi;have:=hc 0 (by simp);simp [sC] at this;exact⟨g,ea,this⟩
theorem l7words_any(l:List UInt8)(hl:l.length≤20000)(w:World):Calls Tryz.prog 45 #[.string (sB l)] w fun e w'=>∃v,Hid (e=.returned v)∧Hid (w'.ownsRow w.heap.size 9 1 v (wordsL l).length ((wordsL l).flatMap sC))∧Ext w w':=by
 obtain⟨i0,hi0,hz0,hz1,hz2⟩:=info_parts infoStr;go_enter Tryz.func45,Tryz.ntmps45;go_wp2_with fail;go_loopw [3,4,5] (fun v a i wr=>∃(k at_:Nat) (out:List (List UInt8)),i=.int .i64 k∧a=.int .i64 at_∧Hid ((k≤l.length∧WdI l k at_ out)∨(k=l.length+1∧out=wordsL l))∧Hid (wr.ownsRow w.heap.size 9 1 v out.length (out.flatMap sC))∧Ext w wr) (fun _ _ i _=>l.length+1-(intOf i).toNat)
 case atStart=>exact⟨0,0,[],rfl,rfl,hide (.inl ⟨Nat.zero_le _,WdI.start l⟩),World.ownsRow_nil _ _ _ _,Ext.refl _⟩
 case round=>
  obtain⟨k,at_,out,rfl,rfl,hI,hown,hbl⟩:=hrel;by_cases hk:k≤l.length
  ·have hw:WdI l k at_ out:=by
    rcases unhide hI with h | h
    ·exact h.2
    ·have:=h.1;omega
   have ha:=hw.1;have hol:=hw.len;by_cases hlt:k<l.length
   ·have hs:k<(sB l).size:=by simpa [ByteArray.size] using hlt
    have qa:((k:Int) == (l.length:Int))=false:=by simp;omega
    cases q:((((sB l)[k]'hs).toNat:Int) == 32)
    ·have NX:=hide (hw.on hlt (by
      intro e;have e2:((sB l)[k]'hs).toNat=32:=by rw[lt_get l k hlt hs,e];rfl
      rw[e2] at q;simp at q))
     go_wp2_with fail;go_roundw
     case rel=>exact⟨k+1,at_,out,by go_num,rfl,hide (.inl ⟨by omega,unhide NX⟩),unhide hown,hbl⟩
     case measure=>simp [intOf];omega
    ·have NX:=hide (hw.cut hlt (by
      have e2:((sB l)[k]'hs).toNat=32:=by simp at q;omega
      rw[lt_get l k hlt hs] at e2;exact UInt8.toNat_inj.1 e2))
     go_wp2_with (at_builtin;refine wpList_append_lies _ rfl _ _ 86 rfl w.heap.size 9 i0 (.string ByteArray.empty) 1 16 Tryz.underlying86 hi0 hz0 hz1 hz2 rfl (by decide) _ out.length (out.flatMap sC) rfl ((unhide hown).alloc _) _ 1 1 (sC ((l.take k).drop at_)) rfl rfl ?c1 ?c2 (by decide) ?c3 ?c4 ?c5 _ rfl ?_)
     case c1=>
      intro q u hk
      match q,hk with
      | 0,hk=>simp [sC] at hk;subst hk;rw[←sub_str];simp [Addr.add,go_sem]
      | q+1,hk=>simp [sC] at hk
     case c2=>intro u hu;simp [sC] at hu;subst hu;rfl
     case c3=>unfold maxLen;omega
     case c4=>omega
     case c5=>have:=hbl.size;simp;omega
     intro g cap' w2 hown2 hgrow hat hglt
     have R:=hide (show w2.ownsRow w.heap.size 9 1 (.slice (some ⟨g,0,none⟩) (out.length+1) cap') (out++[(l.take k).drop at_]).length ((out++[(l.take k).drop at_]).flatMap sC) by
      rw[List.flatMap_append]
      simpa using hown2)
     have X2:=hide (grown_ext (hbl.alloc _) ((unhide hown).alloc _) (Nat.le_refl _) hgrow);clear hown2 hgrow hat hown;go_wp2_with fail;go_roundw
     case rel=>exact⟨k+1,k+1,_,by go_num,by go_num,hide (.inl ⟨by omega,unhide NX⟩),unhide R,unhide X2⟩
     case measure=>simp [intOf];omega
   ·have e:k=l.length:=by omega
    have NX:=hide (show out++[(l.take k).drop at_]=wordsL l by subst e;exact hw.done);have qa:((k:Int) == (l.length:Int))=true:=by simp;omega
    clear hw hI e;go_wp2_with (at_builtin;refine wpList_append_lies _ rfl _ _ 86 rfl w.heap.size 9 i0 (.string ByteArray.empty) 1 16 Tryz.underlying86 hi0 hz0 hz1 hz2 rfl (by decide) _ out.length (out.flatMap sC) rfl ((unhide hown).alloc _) _ 1 1 (sC ((l.take k).drop at_)) rfl rfl ?c1 ?c2 (by decide) ?c3 ?c4 ?c5 _ rfl ?_)
    case c1=>
     intro q u hk
     match q,hk with
     | 0,hk=>simp [sC] at hk;subst hk;rw[←sub_str];simp [Addr.add,go_sem]
     | q+1,hk=>simp [sC] at hk
    case c2=>intro u hu;simp [sC] at hu;subst hu;rfl
    case c3=>unfold maxLen;omega
    case c4=>omega
    case c5=>have:=hbl.size;simp;omega
    intro g cap' w2 hown2 hgrow hat hglt
    have R:=hide (show w2.ownsRow w.heap.size 9 1 (.slice (some ⟨g,0,none⟩) (out.length+1) cap') (out++[(l.take k).drop at_]).length ((out++[(l.take k).drop at_]).flatMap sC) by
     rw[List.flatMap_append]
     simpa using hown2)
    have X2:=hide (grown_ext (hbl.alloc _) ((unhide hown).alloc _) (Nat.le_refl _) hgrow);clear hown2 hgrow hat hown;go_wp2_with fail;go_roundw
    case rel=>exact⟨k+1,k+1,_,by go_num,by go_num,hide (.inr ⟨by omega,unhide NX⟩),unhide R,unhide X2⟩
    case measure=>simp [intOf];omega
  ·have e:out=wordsL l:=by
    rcases unhide hI with h | h
    ·omega
    ·exact h.2
   subst e;have FIN:=hown;clear hI;go_wp2_with fail;go_ret;exact⟨_,rfl,unhide FIN,hbl⟩
def nP(l:List UInt8)(i:Nat):Int:=if l.head?=some 45 then -(valF 0 ((l.take i).drop 1):Int) else (valF 0 (l.take i):Int)
theorem nP_end(l:List UInt8):nP l l.length=numV l:=by
 unfold nP numV;rw[List.take_length]
 split
 ·rw[List.drop_one]
 ·rfl
theorem nP_zero(l:List UInt8):nP l 0=0:=by unfold nP valF;split <;> simp
theorem nP_sign(l:List UInt8)(h:l.head?=some 45):nP l 1=0:=by
 unfold nP valF;rw[if_pos h];have:(l.take 1).drop 1=[]:=List.drop_eq_nil_of_le (by simp;omega);rw[this];rfl
theorem nP_neg(l:List UInt8)(i:Nat)(hi:i<l.length)(h0:1≤i)(h:l.head?=some 45)(hd:Dig l[i]):nP l (i+1)=nP l i*10-((l[i].toNat:Int)-48):=by
 unfold nP;rw[if_pos h,if_pos h,take_drop_succ l i 1 hi h0,valF_app];unfold Dig at hd;omega
theorem nP_pos(l:List UInt8)(i:Nat)(hi:i<l.length)(h:¬l.head?=some 45)(hd:Dig l[i]):nP l (i+1)=nP l i*10+((l[i].toNat:Int)-48):=by
 unfold nP;have:=take_drop_succ l i 0 hi (Nat.zero_le _);simp only [List.drop_zero] at this;rw[if_neg h,if_neg h,this,valF_app];unfold Dig at hd;omega
abbrev wr64(n:Int):Int:=wrap64 n
theorem wr64_in(n:Int):InI (wr64 n):=by unfold InI wr64 wrap64;omega
theorem wr64_id{n:Int}(h:InI n):wr64 n=n:=by unfold InI at h;unfold wr64 wrap64;omega
theorem wr64_sub(n d:Int):wr64 (wr64 (wr64 n*10)-d)=wr64 (n*10-d):=by unfold wr64 wrap64;omega
theorem wr64_add(n d:Int):wr64 (wr64 (wr64 n*10)+d)=wr64 (n*10+d):=by unfold wr64 wrap64;omega
theorem num_yes(l:List UInt8)(n:Int)(hn:n=wr64 (numV l)):(l == Lib.itoa n)=numB l∧(numB l=true→n=numV l):=by
 have hi:InI n:=hn ▸ wr64_in _
 have key:numB l=true→n=numV l:=fun h=>by
  have:=((numB_iff l).1 h).1;rw[hn,wr64_id this]
 refine⟨?_,key⟩;cases q:numB l with
 | true=>
  have h1:=(numB_iff l).1 q;rw[key q,←h1.2];simp
 | false=>
  cases q2:(l == Lib.itoa n) with
  | false=>rfl
  | true=>
   have e:l=Lib.itoa n:=by simpa using q2
   have:=(numB_of (l:=l) (n:=n) ⟨hi,e⟩).1;rw[q] at this;cases this
theorem num_no(l:List UInt8)(i:Nat)(hi:i<l.length)(hd:¬Dig l[i])(h:i≠0∨l[i]≠45):numB l=false:=by
 cases q:numB l with
 | false=>rfl
 | true=>
  have h1:=(numB_iff l).1 q;have h2:(Lib.itoa (numV l))[i]?=some l[i]:=by rw[←h1.2];exact List.getElem?_eq_getElem hi
  rcases itoa_bytes _ _ _ h2 with h3 | ⟨h3,h4⟩
  ·exact absurd h3 hd
  ·rcases h with h | h
   ·exact absurd h3 h
   ·exact absurd h4 h
theorem l7number_any(l:List UInt8)(hl:l.length≤20000)(w:World):Calls Tryz.prog 46 #[.string (sB l)] w fun e w'=>∃n:Int,Hid (e=.returned (.tuple #[.int .i64 n,.bool (numB l)]))∧Hid (numB l=true→n=numV l)∧Hid (InI n)∧Ext w w':=by
 go_enter Tryz.func46,Tryz.ntmps46;go_wp2_with fail;go_loopw [4,5] (fun n i wr=>∃(k:Nat) (m:Int),i=.int .i64 k∧n=.int .i64 m∧k≤l.length∧Hid (m=wr64 (nP l k))∧wr=w) (fun _ i _=>l.length-(intOf i).toNat)
 case atStart=>exact⟨0,0,rfl,rfl,Nat.zero_le _,hide (by rw[nP_zero];exact(wr64_id (n:=0) ⟨by omega,by omega⟩).symm),rfl⟩
 case round=>
  obtain⟨k,m,rfl,rfl,hk,hm,rfl⟩:=hrel;by_cases hlt:k<l.length
  ·have hs:k<(sB l).size:=by simpa [ByteArray.size] using hlt
   have h0s:0<(sB l).size:=by omega
   have gk:((sB l)[k]'hs)=l[k]:=rfl;have HD:=hide (show l.head?=some (l[0]'(by omega)) by cases l with | nil=>simp at hlt | cons a r=>rfl);have g0:((sB l)[0]'h0s)=l[0]'(by omega):=rfl;by_cases d1:48≤(((sB l)[k]'hs).toNat:Int)
   ·by_cases d2:(((sB l)[k]'hs).toNat:Int)≤57
    ·have DG:=hide (show Dig l[k] by rw[gk] at d1 d2;unfold Dig;omega);cases q:((((sB l)[0]'h0s).toNat:Int) == 45)
     ·have NH:=hide (show ¬l.head?=some 45 by
       rw[unhide HD];intro e;have e2:l[0]'(by omega)=45:=by simpa using e
       rw[g0,e2] at q;simp at q)
      have NX:=hide (nP_pos l k hlt (unhide NH) (unhide DG));clear gk g0;go_wp2_with fail;refine⟨⟨k+1,_,rfl,rfl,by omega,hide ?_,trivial⟩,by simp [intOf];omega⟩;rw[unhide NX,unhide hm,show((sB l)[k]'hs)=l[k] from rfl];exact wr64_add (nP l k) ((l[k].toNat:Int)-48)
     ·have NH:=hide (show l.head?=some 45 by
       rw[unhide HD];have e2:((sB l)[0]'h0s).toNat=45:=by simp at q;omega
       rw[g0] at e2;rw[UInt8.toNat_inj.1 (show(l[0]'(by omega)).toNat=(45:UInt8).toNat from e2)])
      have K0:=hide (show 1≤k from Nat.pos_of_ne_zero (fun e=>by
       subst e;have e2:((sB l)[0]'h0s).toNat=45:=by simp at q;omega
       omega))
      have NX:=hide (nP_neg l k hlt (unhide K0) (unhide NH) (unhide DG));clear gk g0;go_wp2_with fail;refine⟨⟨k+1,_,rfl,rfl,by omega,hide ?_,trivial⟩,by simp [intOf];omega⟩;rw[unhide NX,unhide hm,show((sB l)[k]'hs)=l[k] from rfl];exact wr64_sub (nP l k) ((l[k].toNat:Int)-48)
    ·have ND:=hide (show ¬Dig l[k] by rw[gk] at d2;unfold Dig;omega);have NB:=hide (num_no l k hlt (unhide ND) (.inr (fun e=>by rw[gk,e] at d2;exact d2 (by decide))));by_cases k0:k=0
     ·subst k0;have ne45:((((sB l)[0]'hs).toNat:Int) != 45)=true:=by simp;omega
      clear gk g0;go_wp2_with fail;go_ret2;exact⟨0,hide (by rw[unhide NB];rfl),hide (fun h=>by rw[unhide NB] at h;cases h),hide ⟨by decide,by decide⟩,Ext.refl _⟩
     ·have hk0:(0:Int)<(k:Int):=by omega
      clear gk g0;go_wp2_with fail;go_ret2;exact⟨0,hide (by rw[unhide NB];rfl),hide (fun h=>by rw[unhide NB] at h;cases h),hide ⟨by decide,by decide⟩,Ext.refl _⟩
   ·have ND:=hide (show ¬Dig l[k] by rw[gk] at d1;unfold Dig;omega);by_cases k0:k=0
    ·subst k0;cases q:((((sB l)[0]'hs).toNat:Int) != 45)
     ·have NH:=hide (show l.head?=some 45 by
       rw[unhide HD];have e2:((sB l)[0]'hs).toNat=45:=by simp at q;omega
       rw[gk] at e2;rw[UInt8.toNat_inj.1 (show(l[0]'(by omega)).toNat=(45:UInt8).toNat from e2)])
      clear gk g0;go_wp2_with fail;refine⟨⟨1,_,rfl,rfl,by omega,hide ?_,trivial⟩,by simp [intOf];omega⟩;rw[nP_sign l (unhide NH),unhide hm,nP_zero]
     ·have NB:=hide (num_no l 0 hlt (unhide ND) (.inr (fun e=>by rw[gk,e] at q;simp at q)));clear gk g0;go_wp2_with fail;go_ret2;exact⟨0,hide (by rw[unhide NB];rfl),hide (fun h=>by rw[unhide NB] at h;cases h),hide ⟨by decide,by decide⟩,Ext.refl _⟩
    ·have NB:=hide (num_no l k hlt (unhide ND) (.inl k0));have hk0:(0:Int)<(k:Int):=by omega
     clear gk g0;go_wp2_with fail;go_ret2;exact⟨0,hide (by rw[unhide NB];rfl),hide (fun h=>by rw[unhide NB] at h;cases h),hide ⟨by decide,by decide⟩,Ext.refl _⟩
  ·have e:k=l.length:=by omega
   have HM:=hide (show m=wr64 (numV l) by rw[←nP_end,←e];exact unhide hm);have IM:=hide (show InI m by rw[unhide HM];exact wr64_in _);have QD:=hide (fun W=>l7decimal_any m (unhide IM).1 (unhide IM).2 W);have NY:=hide (num_yes l m (unhide HM));clear e;go_wp2_with (go_at_call 20;refine(unhide QD _).mono ?_;rintro e w2 ⟨rfl,x2⟩);go_ret2;exact⟨m,hide (by rw[←(unhide NY).1];rfl),hide (unhide NY).2,unhide IM,x2⟩
theorem word_le{l:List UInt8}:∀w∈wordsL l,w.length≤l.length:=by
 induction l with
 | nil=>intro w hw;simp [wordsL] at hw;simp [hw]
 | cons c r ih=>
  intro w hw;unfold wordsL at hw
  split at hw
  ·rcases List.mem_cons.1 hw with rfl | hw
   ·simp
   ·have:=ih w hw;simp;omega
  ·split at hw
   ·have e:=List.mem_singleton.1 hw;rw[e];simp
   ·rename_i q;rcases List.mem_cons.1 hw with rfl | hw
    ·have:=ih _ (by rw[q];exact List.mem_cons_self ..);simp;omega
    ·have:=ih w (by rw[q];exact List.mem_cons_of_mem _ hw);simp;omega
theorem roomO_len{l:List UInt8}(h:(wordsL l).length≠2):roomO l=none:=by
 unfold roomO
 split
 ·rename_i q;rw[q] at h;simp at h
 ·rfl
theorem roomO_name{l w0 r:List UInt8}(h:wordsL l=[w0,r])(h0:(w0 == [114,111,111,109])=false):roomO l=none:=by
 unfold roomO;rw[h];simp [h0]
theorem roomO_two{l w0 r:List UInt8}(h:wordsL l=[w0,r])(h0:(w0 == [114,111,111,109])=true):roomO l=if roomGood r=true then some (numV r) else none:=by
 unfold roomO;rw[h];simp [h0]
theorem l7room_any(l:List UInt8)(hl:l.length≤20000)(w:World):Calls Tryz.prog 25 #[.string (sB l)] w fun e w'=>∃n:Int,Hid (e=.returned (.tuple #[.int .i64 n,.bool (roomO l).isSome]))∧Hid (∀r,roomO l=some r→n=r)∧Ext w w':=by
 have QW:=hide (fun W=>l7words_any l hl W);go_enter Tryz.func25,Tryz.ntmps25;go_wp2_with fail;refine(unhide QW _).mono ?_;rintro e w2 ⟨v,he,hown,x2⟩;have e2:=unhide he;clear he;subst e2;have WL:=hide (word_le (l:=l));obtain⟨ad,cap,hv,hx⟩:=own_strs (unhide hown);subst hv;have HX:=hide hx;clear hx hown;by_cases h2:(wordsL l).length=2;rotate_left
 ·have NO:=hide (roomO_len h2);have q1:(((wordsL l).length:Int) != 2)=true:=by simp;omega
  go_wp2_with fail;go_ret2;exact⟨0,hide (by rw[unhide NO];rfl),hide (fun r h=>by rw[unhide NO] at h;cases h),x2⟩
 ·obtain⟨w0,r,hw⟩:∃w0 r,wordsL l=[w0,r]:=by
   match q:wordsL l,h2 with
   | [a,b],_=>exact⟨a,b,rfl⟩
  have RL:=unhide WL r (by rw[hw];simp);have HW:=hide hw;obtain⟨L,hL⟩:∃L,L=wordsL l:=⟨_,rfl⟩;rw[←hL] at HX;have hL2:L=[w0,r]:=hL.trans hw;subst hL2;obtain⟨g,hg,c0⟩:=unhide HX 0 (by simp);obtain⟨g1,hg1,c1⟩:=unhide HX 1 (by simp);subst hg;cases hg1;simp only [List.getElem_cons_zero,List.getElem_cons_succ] at c0 c1;have hlen:(wordsL l).length=2:=h2;rw[hlen];have QN:=hide (fun W=>l7number_any r (by omega) W);clear HX hL hw h2 hlen QW;cases q:(w0 == [114,111,111,109])
  ·have NO:=hide (roomO_name (unhide HW) q);have q2:(w0 != [114,111,111,109])=true:=by simp [bne,q]
   go_wp2_with fail;go_ret2;exact⟨0,hide (by rw[unhide NO];rfl),hide (fun r h=>by rw[unhide NO] at h;cases h),x2⟩
  ·have TW:=hide (roomO_two (unhide HW) q);have q2:(w0 != [114,111,111,109])=false:=by simp [bne,q]
   go_wp2_with fail;refine(unhide QN _).mono ?_;rintro e w3 ⟨n,he,hn,_,x3⟩;have e2:=unhide he;clear he;subst e2;cases qb:numB r
   ·have NO:=hide (show roomO l=none by rw[unhide TW,if_neg];unfold roomGood;rw[qb];simp);go_wp2_with fail;go_ret2;exact⟨_,hide (by rw[unhide NO];rfl),hide (fun r h=>by rw[unhide NO] at h;cases h),x2.trans x3⟩
   ·have en:=unhide hn qb
    have YS:=hide (show(roomO l).isSome=(decide (1≤n) && decide (n≤4000))∧∀r,roomO l=some r→n=r by
     rw[unhide TW];unfold roomGood;rw[qb,←en,Bool.true_and];cases h:(decide (1≤n) && decide (n≤4000)) with
     | true=>simp only [if_true];exact⟨rfl,fun r hr=>Option.some.inj hr⟩
     | false=>rw[if_neg (by simp)];exact⟨rfl,fun r hr=>by cases hr⟩)
    clear en;by_cases p1:1≤n
    ·have Z:=hide (show(decide (1≤n) && decide (n≤4000))=decide (n≤4000) by rw[decide_eq_true p1,Bool.true_and]);go_wp2_with fail;go_ret2;exact⟨n,hide (by rw[(unhide YS).1,unhide Z];rfl),hide (unhide YS).2,x2.trans x3⟩
    ·have Z:=hide (show(decide (1≤n) && decide (n≤4000))=false by rw[decide_eq_false p1];simp);go_wp2_with fail;go_ret2;exact⟨n,hide (by rw[(unhide YS).1,unhide Z];rfl),hide (unhide YS).2,x2.trans x3⟩
def SgI(op:Int)(ws:List (List UInt8))(i:Nat):Prop:=∀j,j<i→hasL op j=true→cntL op j<ws.length∧numB (ws.getD (cntL op j) [])=true∧(j<3→0≤sNum op ws j∧sNum op ws j≤100000)
theorem SgI.no{op:Int}{ws:List (List UInt8)}{i:Nat}(h:SgI op ws i)(q:hasL op i=false):SgI op ws (i+1):=by
 intro j hj hh;by_cases e:j=i
 ·subst e;rw[q] at hh;cases hh
 ·exact h j (by omega) hh
theorem SgI.yes{op:Int}{ws:List (List UInt8)}{i:Nat}(h:SgI op ws i)(h1:cntL op i<ws.length)(h2:numB (ws.getD (cntL op i) [])=true)(h3:i<3→0≤sNum op ws i∧sNum op ws i≤100000):SgI op ws (i+1):=by
 intro j hj hh;by_cases e:j=i
 ·subst e;exact⟨h1,h2,h3⟩
 ·exact h j (by omega) hh
theorem cnt_mono(op:Int):∀{i j:Nat},i≤j→cntL op i≤cntL op j
 | i,0,h=>by
  have:i=0:=by omega
  subst this;exact Nat.le_refl _
 | i,j+1,h=>by
  by_cases e:i=j+1
  ·subst e;exact Nat.le_refl _
  ·have h1:=cnt_mono op (i:=i) (j:=j) (by omega);cases q:hasL op j
   ·rw[cnt_no op j q];exact h1
   ·rw[cnt_yes op j q];omega
theorem cnt_hit(op:Int):∀{n k:Nat},k<cntL op n→∃j,j<n∧hasL op j=true∧cntL op j=k
 | 0,k,h=>by simp [cntL] at h
 | n+1,k,h=>by
  cases q:hasL op n
  ·rw[cnt_no op n q] at h;obtain⟨j,h1,h2⟩:=cnt_hit op h;exact⟨j,by omega,h2⟩
  ·rw[cnt_yes op n q] at h;by_cases e:k=cntL op n
   ·exact⟨n,by omega,q,e.symm⟩
   ·obtain⟨j,h1,h2⟩:=cnt_hit op (n:=n) (k:=k) (by omega);exact⟨j,by omega,h2⟩
theorem sg_good(op:Nat)(h1:1≤op)(h2:op≤24)(ws:List (List UInt8))(h:SgI op ws 4)(hl:cntL op 4=ws.length)(hk:okA (sAct op ws)=true):actGood op ws=true:=by
 have hc:=cnt_len op h2;unfold actGood;rw[Bool.and_eq_true,Bool.and_eq_true];refine⟨decide_eq_true (by omega),List.all_eq_true.2 (fun x hx=>?_),?_⟩
 ·obtain⟨k,hk2,rfl⟩:=List.getElem_of_mem hx;obtain⟨j,hj,hh,hcj⟩:=cnt_hit op (n:=4) (k:=k) (by omega);have:=(h j hj hh).2.1;rw[hcj,List.getD_eq_getElem?_getD,List.getElem?_eq_getElem hk2] at this;exact this
 ·rw[←sAct_eq op h1 h2 ws (by omega)];exact hk
theorem good_num{op:Nat}{ws:List (List UInt8)}(h:actGood op ws=true):ws.length=(letL (op:Nat)).length∧(∀x∈ws,numB x=true)∧okA (actOf op ws)=true:=by
 unfold actGood at h;rw[Bool.and_eq_true,Bool.and_eq_true] at h;exact⟨of_decide_eq_true h.1,List.all_eq_true.1 h.2.1,h.2.2⟩
theorem okA_small{x:Ak}(h:okA x=true):(0≤x.a∧x.a≤100000)∧(0≤x.b∧x.b≤100000)∧(0≤x.c∧x.c≤100000):=by
 have hop:=okA_op h;unfold okA actOkB at h;simp only [Bool.and_eq_true,decide_eq_true_eq] at h;have ha:actA x.op≤100000:=by unfold actA;split <;> omega
 have hb:actB x.op≤100000:=by unfold actB;split <;> (try split) <;> (try split) <;> omega
 have hc:actC x.op≤100000:=by unfold actC;(repeat' split) <;> omega
 omega
theorem sg_bad(op:Nat)(h1:1≤op)(h2:op≤24)(ws:List (List UInt8))(i:Nat)(hi:i<4)(hh:hasL op i=true)(h:ws.length≤cntL op i∨numB (ws.getD (cntL op i) [])=false∨(i<3∧(sNum op ws i<0∨100000<sNum op ws i))):actGood op ws=false:=by
 cases q:actGood op ws with
 | false=>rfl
 | true=>
  obtain⟨g1,g2,g3⟩:=good_num q;have hc:=cnt_len op h2
  have hlt:cntL op i<ws.length:=by
   have:=cnt_mono op (i:=i+1) (j:=4) (by omega);rw[cnt_yes op i hh] at this;omega
  rcases h with h | h | ⟨h3,h⟩
  ·omega
  ·rw[List.getD_eq_getElem?_getD,List.getElem?_eq_getElem hlt] at h;have:=g2 _ (List.getElem_mem hlt);simp at h;rw[h] at this;cases this
  ·rw[←sAct_eq op h1 h2 ws g1] at g3;have hs:=okA_small g3;unfold sAct at hs;simp only at hs;have h4:i=0∨i=1∨i=2:=by omega
   rcases h4 with rfl | rfl | rfl <;> omega
theorem good_end(op:Nat)(h1:1≤op)(h2:op≤24)(ws:List (List UInt8))(h:SgI op ws 4):actGood op ws=(decide (cntL op 4=ws.length) && okA (sAct op ws)):=by
 cases q:(decide (cntL op 4=ws.length) && okA (sAct op ws)) with
 | true=>
  rw[Bool.and_eq_true] at q;exact sg_good op h1 h2 ws h (of_decide_eq_true q.1) q.2
 | false=>
  cases q2:actGood op ws with
  | false=>rfl
  | true=>
   obtain⟨g1,g2,g3⟩:=good_num q2;have hc:=cnt_len op h2;rw[←sAct_eq op h1 h2 ws g1] at g3;rw[g3,decide_eq_true (by omega)] at q;cases q
end Go.Proofs.YtnegjhddmfiefaaGreatDoor
