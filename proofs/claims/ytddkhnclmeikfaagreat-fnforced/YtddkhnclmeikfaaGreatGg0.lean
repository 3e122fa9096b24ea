import Derived.Test.YtddkhnclmeikfaaGreatLm
import Derived.Test.YtddkhnclmeikfaaGreatDa
import Derived.MapKept
set_option maxRecDepth 100000
set_option maxHeartbeats 2000000
namespace Go.Proofs.YtddkhnclmeikfaaGreat
open Go.RowKit
attribute [local go_sem ↓] Go.wp_at_zero Go.wp_at_succ
theorem Ext.drewN{a w:World}(h:Ext a w)(n:Nat):Ext a (w.drewN n):=below_drewN h n
theorem withinB_true{n lo hi:Int}(h:withinB n lo hi=true):lo≤n∧n≤hi:=by simpa [withinB] using h
theorem within_is(n lo hi:Int)(r:Bool)(h:withinB n lo hi=r)(w:World):Calls Tryz.prog 78 #[.int .i64 n,.int .i64 lo,.int .i64 hi] w fun e w'=>e=.returned (.bool r)∧w'=w:=by
 rw[←h];exact within_any n lo hi w
theorem find_none(y:Wd)(b:Nat)(w:World)(k2:(y.k == 2)=false):
  Calls Tryz.prog 199 #[.pointer (some ⟨b,0,none⟩),y.v] w fun e w'=>e=.returned (.pointer none)∧Ext w w':=by
 have k2b:(y.k != 2)=true:=by simpa using k2
 go_enter Tryz.func199,Tryz.ntmps199;go_wp2_with fail;go_ret;exact⟨rfl,(Ext.refl w).alloc _⟩
theorem find_some(y:Wd)(b n bn on kn i:Nat)(w:World)(k2:(y.k == 2)=true)(c13:w.cell? ⟨b,13,none⟩=some (.slice (some ⟨bn,on,none⟩) n kn))(hn:i<n):
  Calls Tryz.prog 199 #[.pointer (some ⟨b,0,none⟩),.agg #[iv y.k,iv y.n,iv i]] w fun e w'=>e=.returned (.pointer (some ⟨bn,on+i*2,none⟩))∧Ext w w':=by
 have hb:b<w.heap.size:=cell_lt c13;have k2b:(y.k != 2)=false:=by simpa using k2
 have hi0:(0:Int)≤(i:Int):=by omega
 have hi1:(i:Int)<(n:Int):=by omega
 go_enter Tryz.func199,Tryz.ntmps199;go_wp2_with fail;go_quiet (fail);go_wp2_with fail;go_ret;exact⟨rfl,((Ext.refl w).alloc _).drewN _⟩
theorem l1resolve_num(y:Wd)(b:Nat)(w:World)(k2:(y.k == 2)=false):
  Calls Tryz.prog 138 #[.pointer (some ⟨b,0,none⟩),y.v] w fun e w'=>e=.returned y.v∧Ext w w':=by
 go_enter Tryz.func138,Tryz.ntmps138;go_wp2_with fail;go_quiet (fail);go_wp2_with fail;refine bodyPost_ret (v:=y.v) (by simp [results,Tryz.results138,go_sem]) rfl ⟨rfl,?_⟩
 repeat (first | exact Ext.refl _ | refine Ext.drewN ?_ _ | refine Ext.alloc ?_ _ | refine Ext.setCell ?_ (by show w.heap.size≤w.heap.size+1;omega) _)
theorem l1resolve_used(x:Hp)(b i:Nat)(w:World){ar:Option Addr}{kr:Nat}{ac:Option Addr}{kc:Nat}{ag:Option Addr}{kg:Nat}(h:HAt w b x ar kr ac kc ag kg)(hi:i<x.cells.length)(s2:((x.c i).st == 2)=false):
  Calls Tryz.prog 138 #[.pointer (some ⟨b,0,none⟩),.agg #[iv 2,iv 0,iv i]] w fun e w'=>e=.returned (.agg #[iv 2,iv 0,iv i])∧Ext w w':=by
 obtain⟨b',o,ap,kp,rfl,C⟩:=h.cell i hi;have p0:=C.p0;have c4:=h.c4;have hb:b<w.heap.size:=cell_lt c4;have hb':b'<w.heap.size:=cell_lt p0;have i0:(0:Int)≤(i:Int):=by omega
 have i1:(i:Int)<(x.cells.length:Int):=by omega
 clear C h;go_enter Tryz.func138,Tryz.ntmps138;go_wp2_with fail;go_quiet (fail);go_wp2_with fail;refine bodyPost_ret (v:=.agg #[iv 2,iv 0,iv i]) (by simp [results,Tryz.results138,go_sem]) rfl ⟨rfl,?_⟩
 repeat (first | exact Ext.refl _ | refine Ext.drewN ?_ _ | refine Ext.alloc ?_ _ | refine Ext.setCell ?_ (by show w.heap.size≤w.heap.size+1;omega) _)
theorem l1resolve_moved(x:Hp)(b i:Nat)(w:World){ar:Option Addr}{kr:Nat}{ac:Option Addr}{kc:Nat}{ag:Option Addr}{kg:Nat}(h:HAt w b x ar kr ac kc ag kg)(hi:i<x.cells.length)(s2:((x.c i).st == 2)=true):
  Calls Tryz.prog 138 #[.pointer (some ⟨b,0,none⟩),.agg #[iv 2,iv 0,iv i]] w fun e w'=>e=.returned (.agg #[iv 2,iv 0,iv (x.c i).to])∧Ext w w':=by
 obtain⟨b',o,ap,kp,rfl,C⟩:=h.cell i hi;have p0:=C.p0;have p6:=C.p6;have c4:=h.c4;have hb:b<w.heap.size:=cell_lt c4;have hb':b'<w.heap.size:=cell_lt p0;have i0:(0:Int)≤(i:Int):=by omega
 have i1:(i:Int)<(x.cells.length:Int):=by omega
 clear C h;go_enter Tryz.func138,Tryz.ntmps138;go_wp2_with fail;go_quiet (fail);go_wp2_with fail
 go_region
 all_goals
  go_wp2_with fail;refine bodyPost_ret (v:=.agg #[iv 2,iv 0,iv (x.c i).to]) (by simp [results,Tryz.results138,go_sem]) rfl ⟨rfl,?_⟩
  repeat (first | exact Ext.refl _ | refine Ext.drewN ?_ _ | refine Ext.drew ?_ | refine Ext.alloc ?_ _ | refine Ext.setCell ?_ (by show w.heap.size≤w.heap.size+1;omega) _)
abbrev ptr(bn p:Nat):Value:=.pointer (some ⟨bn,p,none⟩)
theorem run_sameAddr_block{P:Program}(w:World)(bn p q:Nat):(sameAddr ⟨bn,p,none⟩ ⟨bn,q,none⟩).run P w=.ok (p == q) w:=by
 have:((⟨bn,p,none⟩:Addr) == ⟨bn,q,none⟩)=(p == q):=by
  rw[Bool.eq_iff_iff];simp
 simp [sameAddr,this]
theorem run_equalIn_ptr{P:Program}(w:World)(d:Nat)(t e:TypeId)(i:TypeInfo)(ht:P.underlying t=some (.pointer e))(hi:P.info? e=some i)(hs:i.size≠0)(bn p q:Nat):
  (Op.equalIn (d+1) t (ptr bn p) (ptr bn q)).run P w=.ok (p == q) w:=by
 simp [Op.equalIn,run_underlying ht,sizeOf,typeInfo,hi,hs,run_sameAddr_block]
theorem run_equal_ptr{P:Program}(w:World)(t e:TypeId)(i:TypeInfo)(ht:P.underlying t=some (.pointer e))(hi:P.info? e=some i)(hs:i.size≠0)(bn p q:Nat):
  (Op.equal t (ptr bn p) (ptr bn q)).run P w=.ok (p == q) w:=run_equalIn_ptr w 9999 t e i ht hi hs bn p q
def KeysAre(bn:Nat)(Q:List Nat)(l:List MapEntry):Prop:=l.map (·.key)=Q.map (ptr bn)∧∀e,e∈l→e.val=.agg #[]
theorem findNow_ptr(e:TypeId)(k:Value)(l:List MapEntry):Instr.findNow (.pointer e) k l 0=(if l=[] then some none else none):=by
 cases l with
 | nil=>rfl
 | cons x l=>simp [Instr.findNow,Instr.sameNow]
theorem checkKeyN_ptr{P:Program}(w:World)(d:Nat)(t e:TypeId)(ht:P.underlying t=some (.pointer e))(em:Bool)(v:Option Addr):(Instr.checkKey em (d+1) t (.pointer v)).run P w=.ok () w:=by
 simp [Instr.checkKey,run_underlying ht]
theorem checkKey_ptr{P:Program}(w:World)(t e:TypeId)(ht:P.underlying t=some (.pointer e))(em:Bool)(v:Option Addr):(Instr.checkKey em 10000 t (.pointer v)).run P w=.ok () w:=checkKeyN_ptr w 9999 t e ht em v
structure MapAt(w:World)(r bn:Nat)(Q:List Nat):Prop where
 mk' ::
 m:∃es clock,w.heap[r]?=some (.map es clock)∧KeysAre bn Q es.toList
theorem MapAt.block{w w':World}{r bn:Nat}{Q:List Nat}(h:MapAt w r bn Q)(e:w'.heap[r]?=w.heap[r]?):MapAt w' r bn Q:=by
 obtain⟨es,c,h1,h2⟩:=h.m;exact⟨es,c,e.trans h1,h2⟩
def EntAre(bn on:Nat)(f:Nat→Value)(Q:List Nat)(l:List MapEntry):Prop:=l.map (fun e=>(e.key,e.val))=Q.map (fun k=>(ptr bn (on+k*2),f k))
theorem findF{P:Program}(w:World)(t e:TypeId)(i:TypeInfo)(ht:P.underlying t=some (.pointer e))(hi:P.info? e=some i)(hs:i.size≠0)(bn on:Nat)(f:Nat→Value)(k:Nat):
  ∀(l:List MapEntry) (Q:List Nat) (m:Nat),EntAre bn on f Q l→∃r,(Instr.findAsking t (ptr bn (on+k*2)) l m).run P w=.ok r w∧((∃j,r=some (m+j,f k)∧Q[j]?=some k)∨(¬k∈Q∧r=none))
 | [],Q,m,h=>by
  have:Q=[]:=by simpa [EntAre] using h.symm
  subst this;exact⟨none,by simp [Instr.findAsking],.inr ⟨by simp,rfl⟩⟩
 | x::l,Q,m,h=>by
  cases Q with
  | nil=>simp [EntAre] at h
  | cons q Q=>
   simp only [EntAre,List.map_cons,List.cons.injEq,Prod.mk.injEq] at h;obtain⟨⟨h1,h2⟩,h3⟩:=h;by_cases e:k=q
   ·subst e;refine⟨some (m,f k),?_,.inl ⟨0,rfl,rfl⟩⟩;simp [Instr.findAsking,h1,run_equal_ptr w t _ i ht hi hs,h2]
   ·obtain⟨r,hr,ho⟩:=findF w t _ i ht hi hs bn on f k l Q (m+1) h3;have ne:¬(k*2=q*2):=by omega
    refine⟨r,?_,?_⟩
    ·simp [Instr.findAsking,h1,run_equal_ptr w t _ i ht hi hs,ne,hr]
    ·rcases ho with⟨j,hj,hq⟩ | ⟨n,hj⟩
     ·exact .inl ⟨j+1,by rw[hj];congr 2;omega,by simpa using hq⟩
     ·exact .inr ⟨by simp [e,n],hj⟩
theorem findKeyF{P:Program}(w:World)(t e:TypeId)(i:TypeInfo)(ht:P.underlying t=some (.pointer e))(hi:P.info? e=some i)(hs:i.size≠0)(bn on:Nat)(f:Nat→Value)(k:Nat)(l:List MapEntry)(Q:List Nat)(h:EntAre bn on f Q l):
  ∃r,(Instr.findKey t (ptr bn (on+k*2)) l).run P w=.ok r w∧((∃j,r=some (j,f k)∧Q[j]?=some k)∨(¬k∈Q∧r=none)):=by
 obtain⟨r,hr,ho⟩:=findF w t e i ht hi hs bn on f k l Q 0 h;by_cases hl:l=[]
 ·subst hl;have:Q=[]:=by simpa [EntAre] using h.symm
  subst this;exact⟨none,by simp [Instr.findKey,run_underlying ht,findNow_ptr],.inr ⟨by simp,rfl⟩⟩
 ·refine⟨r,?_,by simpa using ho⟩;simp [Instr.findKey,run_underlying ht,findNow_ptr,hl,hr]
structure MapF(w:World)(r bn on:Nat)(f:Nat→Value):Prop where
 mk' ::
 m:∃es clock Q,w.heap[r]?=some (.map es clock)∧EntAre bn on f Q es.toList∧Q.Nodup∧∀k,¬k∈Q→f k=.slice none 0 0
theorem MapF.block{w w':World}{r bn on:Nat}{f:Nat→Value}(h:MapF w r bn on f)(e:w'.heap[r]?=w.heap[r]?):MapF w' r bn on f:=by
 obtain⟨es,c,Q,h1,h2⟩:=h.m;exact⟨es,c,Q,e.trans h1,h2⟩
theorem MapF.lt{w:World}{r bn on:Nat}{f:Nat→Value}(h:MapF w r bn on f):r<w.heap.size:=by
 obtain⟨es,c,Q,h1,_⟩:=h.m;rcases Nat.lt_or_ge r w.heap.size with q | q
 ·exact q
 ·rw[Array.getElem?_eq_none q] at h1;cases h1
theorem EntAre.at{bn on:Nat}{f:Nat→Value}{Q:List Nat}{l:List MapEntry}(h:EntAre bn on f Q l)(i:Nat):(l[i]?).map (fun e=>(e.key,e.val))=(Q[i]?).map (fun k=>(ptr bn (on+k*2),f k)):=by
 rw[←List.getElem?_map,←List.getElem?_map,h]
def actRa(op:Int):Bool:=!(op == 18 || op == 20 || op == 21 || op == 22 || op == 23 || op == 24)
def actRb(op:Int):Bool:=op == 4 || op == 5 || op == 6 || op == 7 || op == 8 || op == 13
def actB(op:Int):Int:=if op=1 then 255 else if actRb op=true then 15 else if op=23 then 64 else 0
def actC(op:Int):Int:=if op=1∨op=9∨op=10 then 200 else if 5≤op∧op≤8 then 199 else if op=11 then 3 else if op=12 then 1 else if op=22 then 100000 else if op=23 then 4000 else 0
theorem op_cases(op:Int)(h1:1≤op)(h2:op≤24):op=1∨op=2∨op=3∨op=4∨op=5∨op=6∨op=7∨op=8∨op=9∨op=10∨op=11∨op=12∨op=13∨op=14∨op=15∨op=16∨op=17∨op=18∨op=19∨op=20∨op=21∨op=22∨op=23∨op=24:=by omega
theorem l5reg_any(op:Int)(h1:1≤op)(h2:op≤24)(w:World):Calls Tryz.prog 220 #[.int .i64 op] w fun e w'=>e=.returned (.tuple #[.bool (actRa op),.bool (actRb op)])∧w'=w:=by
 have h:=op_cases op h1 h2;clear h1 h2;rcases h with rfl | rfl | rfl | rfl | rfl | rfl | rfl | rfl | rfl | rfl | rfl | rfl | rfl | rfl | rfl | rfl | rfl | rfl | rfl | rfl | rfl | rfl | rfl | rfl
 all_goals
  go_enter Tryz.func220,Tryz.ntmps220
  go_wp2
  go_ret2;exact⟨rfl,rfl⟩
theorem l5most_any(op:Int)(h1:1≤op)(h2:op≤24)(w:World):Calls Tryz.prog 221 #[.int .i64 op] w fun e w'=>e=.returned (.tuple #[.int .i64 (actB op),.int .i64 (actC op)])∧w'=w:=by
 have h:=op_cases op h1 h2;clear h1 h2;rcases h with rfl | rfl | rfl | rfl | rfl | rfl | rfl | rfl | rfl | rfl | rfl | rfl | rfl | rfl | rfl | rfl | rfl | rfl | rfl | rfl | rfl | rfl | rfl | rfl
 all_goals
  go_enter Tryz.func221,Tryz.ntmps221
  go_wp2
  go_ret2;exact⟨rfl,rfl⟩
def actA(op:Int):Int:=if actRa op=true then 15 else 0
def actOkB(op a b c n:Int):Bool:=decide ((1≤op∧op≤24)∧(n=0∨op=2)) && (decide (0≤a∧a≤actA op) && (decide (0≤b∧b≤actB op) && decide (0≤c∧c≤actC op)))
abbrev actV(op a b c n:Int):Value:=.agg #[iv op,iv a,iv b,iv c,iv n]
theorem act_no{op a b c n:Int}(h:op<1∨24<op∨(n≠0∧op≠2)):actOkB op a b c n=false:=by
 unfold actOkB;rw[decide_eq_false (by omega)];rfl
theorem act_a{op a b c n:Int}(h:a<0∨actA op<a):actOkB op a b c n=false:=by
 unfold actOkB;have e:decide (0≤a∧a≤actA op)=false:=decide_eq_false (by omega);rw[e];simp
theorem act_yes{op a b c n:Int}(h1:1≤op)(h2:op≤24)(h3:n=0∨op=2)(h4:0≤a)(h5:a≤actA op):actOkB op a b c n=(decide (0≤b∧b≤actB op) && decide (0≤c∧c≤actC op)):=by
 unfold actOkB;rw[decide_eq_true ⟨⟨h1,h2⟩,h3⟩,decide_eq_true ⟨h4,h5⟩];simp
theorem l1in_r(n lo hi:Int)(r:Bool)(h:l1inB n lo hi=r)(w:World):Calls Tryz.prog 60 #[.int .i64 n,.int .i64 lo,.int .i64 hi] w fun e w'=>e=.returned (.bool r)∧w'=w:=h ▸ l1in_any n lo hi w
theorem specActOk_in(op a b c n:Int)(w:World)(h1:1≤op)(h2:op≤24)(hq:((op != 2)=true∧(n != 0)=false)∨(op != 2)=false):Calls Tryz.prog 158 #[actV op a b c n] w fun e w'=>e=.returned (.bool (actOkB op a b c n))∧Ext w w':=by
 have H3:=hide (show n=0∨op=2 from by rcases hq with⟨_,q⟩ | q <;> simp at q <;> omega);have QM:=hide (fun W=>l5most_any op h1 h2 W);have YY:=hide (fun h4 h5=>act_yes (b:=b) (c:=c) (n:=n) (a:=a) h1 h2 (unhide H3) h4 h5);obtain⟨bm,eb⟩:∃v,v=actB op:=⟨_,rfl⟩;obtain⟨cm,ec⟩:∃v,v=actC op:=⟨_,rfl⟩;rw[←eb,←ec] at QM YY;clear eb ec;have h1b:¬op<1:=by omega
 have h2b:¬op > 24:=by omega
 rcases hq with⟨q1b,q2b⟩ | q1b
 all_goals
  cases q3:actRa op
  ·have QL:=hide (fun W=>q3 ▸ l5reg_any op h1 h2 W);cases q5:(a == 0)
   ·have q5b:(a != 0)=true:=by simpa using q5
    have E:=hide (act_a (op:=op) (a:=a) (b:=b) (c:=c) (n:=n) (by unfold actA;rw[q3];simp at q5;simp;omega));go_enter Tryz.func158,Tryz.ntmps158;go_wp2_with (first | (go_at_call 220;refine(unhide QL _).mono ?_;rintro e w2 ⟨rfl,rfl⟩));go_ret;exact⟨by rw[unhide E];rfl,(Ext.refl _).alloc _⟩
   ·have q5b:(a != 0)=false:=by simpa using q5
    have EY:=hide (unhide YY (by simp at q5;omega) (by unfold actA;rw[q3];simp at q5;simp;omega));cases q6:l1inB b 0 bm
    ·have QB:=hide (fun W=>l1in_r b 0 bm false q6 W);have E:=hide (show actOkB op a b c n=false by rw[unhide EY];have e:decide (0≤b∧b≤bm)=false:=q6;rw[e];rfl);clear EY H3 YY;go_enter Tryz.func158,Tryz.ntmps158;go_wp2_with (first | (go_at_call 220;refine(unhide QL _).mono ?_;rintro e w2 ⟨rfl,rfl⟩) | (go_at_call 221;refine(unhide QM _).mono ?_;rintro e w2 ⟨rfl,rfl⟩) | (go_at_call 60;refine(unhide QB _).mono ?_;rintro e w2 ⟨rfl,rfl⟩));go_ret;exact⟨by rw[unhide E];rfl,(Ext.refl _).alloc _⟩
    ·have QB:=hide (fun W=>l1in_r b 0 bm true q6 W);have QC:=hide (fun W=>l1in_any c 0 cm W);have E:=hide (show actOkB op a b c n=l1inB c 0 cm by rw[unhide EY];have e:decide (0≤b∧b≤bm)=true:=q6;rw[e];rfl);clear EY H3 YY;go_enter Tryz.func158,Tryz.ntmps158;go_wp2_with (first | (go_at_call 220;refine(unhide QL _).mono ?_;rintro e w2 ⟨rfl,rfl⟩) | (go_at_call 221;refine(unhide QM _).mono ?_;rintro e w2 ⟨rfl,rfl⟩) | (have _:=LQB;go_at_call 60;refine(unhide QC _).mono ?_;rintro e w2 ⟨rfl,rfl⟩) | (go_at_call 60;refine(unhide QB _).mono ?_;rintro e w2 ⟨rfl,rfl⟩;have LQB:=True.intro));go_ret;exact⟨by rw[unhide E];rfl,(Ext.refl _).alloc _⟩
  ·have QL:=hide (fun W=>q3 ▸ l5reg_any op h1 h2 W);cases q5:l1inB a 0 15
   ·have QA:=hide (fun W=>l1in_r a 0 15 false q5 W);have E:=hide (act_a (op:=op) (a:=a) (b:=b) (c:=c) (n:=n) (by unfold actA;rw[q3];simp [l1inB] at q5;simp;omega));go_enter Tryz.func158,Tryz.ntmps158;go_wp2_with (first | (go_at_call 220;refine(unhide QL _).mono ?_;rintro e w2 ⟨rfl,rfl⟩) | (go_at_call 60;refine(unhide QA _).mono ?_;rintro e w2 ⟨rfl,rfl⟩));go_ret;exact⟨by rw[unhide E];rfl,(Ext.refl _).alloc _⟩
   ·have QA:=hide (fun W=>l1in_r a 0 15 true q5 W);have EY:=hide (unhide YY (by simp [l1inB] at q5;omega) (by unfold actA;rw[q3];simp [l1inB] at q5;simp;omega));cases q6:l1inB b 0 bm
    ·have QB:=hide (fun W=>l1in_r b 0 bm false q6 W);have E:=hide (show actOkB op a b c n=false by rw[unhide EY];have e:decide (0≤b∧b≤bm)=false:=q6;rw[e];rfl);clear EY H3 YY;go_enter Tryz.func158,Tryz.ntmps158;go_wp2_with (first | (go_at_call 220;refine(unhide QL _).mono ?_;rintro e w2 ⟨rfl,rfl⟩) | (go_at_call 221;refine(unhide QM _).mono ?_;rintro e w2 ⟨rfl,rfl⟩) | (have _:=LQA;go_at_call 60;refine(unhide QB _).mono ?_;rintro e w2 ⟨rfl,rfl⟩) | (go_at_call 60;refine(unhide QA _).mono ?_;rintro e w2 ⟨rfl,rfl⟩;have LQA:=True.intro));go_ret;exact⟨by rw[unhide E];rfl,(Ext.refl _).alloc _⟩
    ·have QB:=hide (fun W=>l1in_r b 0 bm true q6 W);have QC:=hide (fun W=>l1in_any c 0 cm W);have E:=hide (show actOkB op a b c n=l1inB c 0 cm by rw[unhide EY];have e:decide (0≤b∧b≤bm)=true:=q6;rw[e];rfl);clear EY H3 YY;go_enter Tryz.func158,Tryz.ntmps158;go_wp2_with (first | (go_at_call 220;refine(unhide QL _).mono ?_;rintro e w2 ⟨rfl,rfl⟩) | (go_at_call 221;refine(unhide QM _).mono ?_;rintro e w2 ⟨rfl,rfl⟩) | (have _:=LQB;go_at_call 60;refine(unhide QC _).mono ?_;rintro e w2 ⟨rfl,rfl⟩) | (have _:=LQA;go_at_call 60;refine(unhide QB _).mono ?_;rintro e w2 ⟨rfl,rfl⟩;have LQB:=True.intro) | (go_at_call 60;refine(unhide QA _).mono ?_;rintro e w2 ⟨rfl,rfl⟩;have LQA:=True.intro));go_ret;exact⟨by rw[unhide E];rfl,(Ext.refl _).alloc _⟩
theorem specActOk_any(op a b c n:Int)(w:World):Calls Tryz.prog 158 #[actV op a b c n] w fun e w'=>e=.returned (.bool (actOkB op a b c n))∧Ext w w':=by
 by_cases h1:op<1
 ·have E:=hide (act_no (op:=op) (a:=a) (b:=b) (c:=c) (n:=n) (.inl h1));go_enter Tryz.func158,Tryz.ntmps158;go_wp2_with fail;go_ret;exact⟨by rw[unhide E];rfl,(Ext.refl _).alloc _⟩
 ·by_cases h2:op > 24
  ·have E:=hide (act_no (op:=op) (a:=a) (b:=b) (c:=c) (n:=n) (.inr (.inl h2)));go_enter Tryz.func158,Tryz.ntmps158;go_wp2_with fail;go_ret;exact⟨by rw[unhide E];rfl,(Ext.refl _).alloc _⟩
  ·cases q1:(op == 2)
   ·have q1b:(op != 2)=true:=by simpa using q1
    cases q2:(n == 0)
    ·have q2b:(n != 0)=true:=by simpa using q2
     have E:=hide (act_no (op:=op) (a:=a) (b:=b) (c:=c) (n:=n) (.inr (.inr ⟨by simpa using q2,by simpa using q1⟩)));go_enter Tryz.func158,Tryz.ntmps158;go_wp2_with fail;go_ret;exact⟨by rw[unhide E];rfl,(Ext.refl _).alloc _⟩
    ·exact specActOk_in op a b c n w (by omega) (by omega) (.inl ⟨q1b,by simpa using q2⟩)
   ·exact specActOk_in op a b c n w (by omega) (by omega) (.inr (by simpa using q1))
def frH(n:Int):Hp:=⟨n,0,0,List.replicate 16 ⟨0,0,0⟩,[],0,0,0,[],0,0,0,0⟩
end Go.Proofs.YtddkhnclmeikfaaGreat
