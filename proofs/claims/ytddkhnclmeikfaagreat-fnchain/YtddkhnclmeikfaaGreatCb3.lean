import Derived.Test.YtddkhnclmeikfaaGreatCa5
set_option maxRecDepth 100000
set_option maxHeartbeats 4000000
namespace Go.Proofs.YtddkhnclmeikfaaGreat
open Go.RowKit
attribute [local go_sem ↓] Go.wp_at_zero Go.wp_at_succ
theorem infoAk:(Tryz.prog.info? 39).map (fun i=>(i.zero,i.size,i.bytes))=some (some (.agg #[iv 0,iv 0,iv 0,iv 0,iv 0]),5,40):=by kernel_rfl
structure RwA(v w:World)(va:Value)(L:List Ak):Prop where
 ex:Ext v w
 ow:w.ownsRow v.heap.size 39 5 va L.length (L.flatMap fA)
theorem l6add_any(v w:World)(va:Value)(L:List Ak)(op a b c:Int)(h:RwA v w va L)(hl:L.length≤1000):
  Calls Tryz.prog 55 #[va,.int .i64 op,.int .i64 a,.int .i64 b,.int .i64 c] w fun e w'=>∃va',Hid (e=.returned va')∧Hid (RwA v w' va' (L++[⟨op,a,b,c,0⟩])):=by
 have RW:=hide h;clear h;obtain⟨i0,hi0,hz0,hz1,hz2⟩:=info_parts infoAk;go_enter Tryz.func55,Tryz.ntmps55;go_wp2_with (at_builtin;refine wpList_append_lies _ rfl _ _ 23 rfl v.heap.size 39 i0 (.agg #[iv 0,iv 0,iv 0,iv 0,iv 0]) 5 40 Tryz.underlying23 hi0 hz0 hz1 hz2 rfl (by decide) _ L.length (L.flatMap fA) rfl ((unhide RW).ow.alloc _) _ 1 1 [iv op,iv a,iv b,iv c,iv 0] rfl rfl ?c1 ?c2 (by decide) ?c3 ?c4 ?c5 _ rfl ?_)
 case c1=>
  intro q u hk
  match q,hk with
  | 0,hk=>simp at hk;subst hk;simp [Addr.add,go_sem]
  | 1,hk=>simp at hk;subst hk;simp [Addr.add,go_sem]
  | 2,hk=>simp at hk;subst hk;simp [Addr.add,go_sem]
  | 3,hk=>simp at hk;subst hk;simp [Addr.add,go_sem]
  | 4,hk=>simp at hk;subst hk;simp [Addr.add,go_sem]
  | q+5,hk=>simp at hk
 case c2=>intro u hu;simp at hu;rcases hu with e | e | e | e | e <;> subst e <;> rfl
 case c3=>unfold maxLen;omega
 case c4=>omega
 case c5=>have:=(unhide RW).ex.size;simp;omega
 intro g cap' w2 how hgr hat hlt2;have PU:=hide (show RwA v w2 (.slice (some ⟨g,0,none⟩) (L.length+1) cap') (L++[⟨op,a,b,c,0⟩]) from⟨grown_ext ((unhide RW).ex.trans ((Ext.refl w).alloc _)) ((unhide RW).ow.alloc _) (Nat.le_refl _) hgr,by rw[List.flatMap_append,List.length_append];simpa [fA] using how⟩);clear how hgr hat;go_wp2_with fail;go_ret;exact⟨_,rfl,PU⟩
theorem loopN_len(u:Nat):∀i,(loopN u i).length=5*i
 | 0=>rfl
 | i+1=>by unfold loopN loopA;rw[List.length_append,loopN_len u i];simp;omega
theorem madeChain_any(n u:Nat)(hn:n≤60)(w:World):
  Calls Tryz.prog 44 #[.int .i64 n,.int .i64 u] w fun e w'=>∃va,Hid (e=.returned va)∧Hid (RwA w w' va (chainA n u)):=by
 have RW:=hide (show RwA w w (.slice none 0 0) [] from⟨Ext.refl w,World.ownsRow_nil _ _ _ _⟩);go_enter Tryz.func44,Tryz.ntmps44;go_wp2_with (go_at_call 55;refine(l6add_any w _ _ _ _ _ _ _ (unhide RW) (by simp)).mono ?_;rintro e w9 ⟨va9,he9,RW9⟩;have e9:=unhide he9;subst e9;clear he9 RW;have RW:=hide (unhide RW9);clear RW9);have RW:=hide (show RwA w w9 va9 (headA n++loopN u 0) from unhide RW);go_loopw [5,6] (fun va i wr=>∃k:Nat,k≤n∧i=.int .i64 k∧Hid (RwA w wr va (headA n++loopN u k))) (fun _ i _=>n-(intOf i).toNat)
 case atStart=>exact⟨0,Nat.zero_le _,rfl,RW⟩
 case round=>
  clear RW;obtain⟨k,hk,rfl,RW⟩:=hrel;by_cases hlt:(k:Int)<(n:Int)
  ·go_wp2_with (go_at_call 55;refine(l6add_any w _ _ _ _ _ _ _ (unhide RW) (by simp [headA,loopN_len] <;> omega)).mono ?_;rintro e w9 ⟨va9,he9,RW9⟩;have e9:=unhide he9;subst e9;clear he9 RW;have RW:=hide (unhide RW9);clear RW9);go_roundw
   case rel=>exact⟨k+1,by omega,by go_num,hide (by have:=unhide RW;simpa [loopN,loopA,ak] using this)⟩
   case measure=>simp [intOf];omega
  ·have ek:k=n:=by omega
   subst ek;go_wp2_with (go_at_call 55;refine(l6add_any w _ _ _ _ _ _ _ (unhide RW) (by simp [headA,loopN_len] <;> omega)).mono ?_;rintro e w9 ⟨va9,he9,RW9⟩;have e9:=unhide he9;subst e9;clear he9 RW;have RW:=hide (unhide RW9);clear RW9);go_ret;exact⟨_,rfl,hide (by have:=unhide RW;simpa [chainA,tailA,ak] using this)⟩
def numsL:List Ak→List Int→Int→List Int
 | A::L,c::M,op=>if A.op=op then c::numsL L M op else numsL L M op
 | _,_,_=>[]
theorem numsL_app(op:Int):∀(L:List Ak) (M:List Int) (L':List Ak) (M':List Int),M.length=L.length→numsL (L++L') (M++M') op=numsL L M op++numsL L' M' op
 | [],[],_,_,_=>by simp [numsL]
 | [],_::_,_,_,h=>by simp at h
 | _::_,[],_,_,h=>by simp at h
 | A::L,c::M,L',M',h=>by
  have ih:=numsL_app op L M L' M' (by simpa using h);simp only [List.cons_append,numsL,ih]
  split <;> simp
theorem numsL_len(op:Int):∀(L:List Ak) (M:List Int),(numsL L M op).length≤L.length
 | [],_=>by simp [numsL]
 | _::_,[]=>by simp [numsL]
 | A::L,c::M=>by
  have ih:=numsL_len op L M;unfold numsL
  split <;> simp <;> omega
theorem numsL_step(op:Int)(L:List Ak)(M:List Int)(h:M.length=L.length)(k:Nat)(hk:k<L.length):numsL (L.take (k+1)) (M.take (k+1)) op=numsL (L.take k) (M.take k) op++(if L[k].op=op then [M[k]] else []):=by
 rw[List.take_succ_eq_append_getElem hk,List.take_succ_eq_append_getElem (by omega),numsL_app op _ _ _ _ (by simp;omega)];simp only [numsL]
def fI(x:Int):List Value:=[iv x]
theorem infoI:(Tryz.prog.info? 3).map (fun i=>(i.zero,i.size,i.bytes))=some (some (.int .i64 0),1,8):=by kernel_rfl
theorem ownI{w:World}{base:Nat}{v:Value}{L:List Int}(h:w.ownsRow base 3 1 v L.length (L.flatMap fI))(hl:L.length≤1048576):SlI w v L:=by
 obtain⟨ad,cap,e,_,hx⟩:=own_cells (f:=fI) (fun _=>rfl) h;refine⟨ad,cap,e,by omega,fun i hi=>?_⟩;obtain⟨g,ea,_,_,hc⟩:=hx i hi;exact⟨g,0,ea,by have:=hc 0 (by simp);simpa [fI,InAt] using this⟩
structure RwI(v w:World)(va:Value)(L:List Int):Prop where
 ex:Ext v w
 ow:w.ownsRow v.heap.size 3 1 va L.length (L.flatMap fI)
theorem wNums_any(L:List Ak)(M:List Int)(va vm:Value)(op:Int)(w:World)(hl:L.length≤1000)(hm:M.length=L.length)(hL:SlA w va L)(hM:SlN w vm M):
  Calls Tryz.prog 45 #[va,vm,.int .i64 op] w fun e w'=>∃v,Hid (e=.returned v)∧Hid (SlI w' v (numsL L M op))∧Ext w w':=by
 obtain⟨ad,cap,rfl,_,hx⟩:=hL;obtain⟨am,cm,rfl,_,hy⟩:=hM;have HX:=hide hx;have HY:=hide hy;clear hx hy;rw[hm];obtain⟨i0,hi0,hz0,hz1,hz2⟩:=info_parts infoI;have R0:=hide (show RwI w w (.slice none 0 0) (numsL (L.take 0) (M.take 0) op) from⟨Ext.refl w,by simpa [numsL] using World.ownsRow_nil _ _ _ _⟩);go_enter Tryz.func45,Tryz.ntmps45;go_wp2_with fail;go_loopw [7,11] (fun v i wr=>∃k:Nat,k≤L.length∧i=.int .i64 k∧Hid (RwI w wr v (numsL (L.take k) (M.take k) op))) (fun _ i _=>L.length-(intOf i).toNat)
 case atStart=>exact⟨0,Nat.zero_le _,rfl,R0⟩
 case round=>
  clear R0;obtain⟨k,hk,rfl,RW⟩:=hrel;by_cases hlt:k<L.length
  ·have ST:=numsL_step op L M hm k hlt;obtain⟨b,o,rfl,p0,_⟩:=unhide HX k hlt;obtain⟨b',o',rfl,_,q1⟩:=unhide HY k (by omega);have e0:=(unhide RW).ex.keep p0;have g1:=(unhide RW).ex.keep q1;clear p0 q1;have hk0:(0:Int)≤(k:Int):=by omega
   have hk1:(k:Int)<(L.length:Int):=by omega
   obtain⟨y,hy⟩:∃y,y=L[k].op:=⟨_,rfl⟩;obtain⟨z,hz⟩:∃z,z=M[k]:=⟨_,rfl⟩;rw[←hy] at e0 ST;rw[←hz] at g1 ST;have ll:=numsL_len op (L.take k) (M.take k);rw[List.length_take] at ll;clear hy hz;obtain⟨N,hN⟩:∃N,N=numsL (L.take k) (M.take k) op:=⟨_,rfl⟩;rw[←hN] at RW ST ll;have SH:=hide ST;clear hN ST;by_cases e:y=op
   ·have eb:(y == op)=true:=by simp [e]
    go_wp2_with (at_builtin;refine wpList_append_lies _ rfl _ _ 32 rfl w.heap.size 3 i0 (.int .i64 0) 1 8 Tryz.underlying32 hi0 hz0 hz1 hz2 rfl (by decide) _ N.length (N.flatMap fI) rfl ((unhide RW).ow.alloc _) _ 1 1 [iv z] rfl rfl ?c1 ?c2 (by decide) ?c3 ?c4 ?c5 _ rfl ?_)
    case c1=>
     intro q u hk
     match q,hk with
     | 0,hk=>simp at hk;subst hk;simp [Addr.add,go_sem]
     | q+1,hk=>simp at hk
    case c2=>intro u hu;simp at hu;subst hu;rfl
    case c3=>unfold maxLen;omega
    case c4=>omega
    case c5=>have:=(unhide RW).ex.size;simp;omega
    intro g cap' w2 how hgr hat hlt2;have PU:=hide (show RwI w w2 (.slice (some ⟨g,0,none⟩) (N.length+1) cap') (N++[z]) from⟨grown_ext ((unhide RW).ex.trans ((Ext.refl wr).alloc _)) ((unhide RW).ow.alloc _) (Nat.le_refl _) hgr,by rw[List.flatMap_append,List.length_append];simpa [fI] using how⟩);clear how hgr hat RW;go_wp2_with fail;go_roundw
    case rel=>exact⟨k+1,by omega,by go_num,by rw[unhide SH,if_pos e];exact PU⟩
    case measure=>simp [intOf];omega
   ·have eb:(y == op)=false:=by simp [e]
    go_wp2_with fail;go_roundw
    case rel=>exact⟨k+1,by omega,by go_num,by rw[unhide SH,if_neg e,List.append_nil];exact RW⟩
    case measure=>simp [intOf];omega
  ·have ek:k=L.length:=by omega
   subst ek;rw[List.take_length,←hm,List.take_length] at RW;have RI:=hide (ownI (unhide RW).ow (by have:=numsL_len op L M;omega));have EX:=(unhide RW).ex;go_wp2_with fail;go_ret;exact⟨_,rfl,RI,EX⟩
end Go.Proofs.YtddkhnclmeikfaaGreat
