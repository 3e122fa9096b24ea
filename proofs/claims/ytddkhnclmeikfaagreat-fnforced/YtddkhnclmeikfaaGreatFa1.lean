import Derived.Test.YtddkhnclmeikfaaGreatFm7
set_option maxRecDepth 100000
set_option maxHeartbeats 4000000
namespace Go.Proofs.YtddkhnclmeikfaaGreat
open Go.RowKit
attribute [local go_sem ↓] Go.wp_at_zero Go.wp_at_succ
theorem infoAkB:(Tryz.prog.info? 39).map (fun i=>(i.zero,i.size,i.bytes))=some (some (.agg #[iv 0,iv 0,iv 0,iv 0,iv 0]),5,40):=by kernel_rfl
def RwB(B:Nat)(w:World)(va:Value)(L:List Ak):Prop:=w.ownsRow B 39 5 va L.length (L.flatMap fA)
theorem l6add_b(B:Nat)(w:World)(va:Value)(L:List Ak)(op a b c:Int)(h:RwB B w va L)(hl:L.length≤1000)(hB:B≤w.heap.size):
  Calls Tryz.prog 55 #[va,.int .i64 op,.int .i64 a,.int .i64 b,.int .i64 c] w fun e w'=>∃va',Hid (e=.returned va')∧Hid (RwB B w' va' (L++[⟨op,a,b,c,0⟩]))∧Hid (Below B w w'):=by
 have RW:=hide h;clear h;obtain⟨i0,hi0,hz0,hz1,hz2⟩:=info_parts infoAkB;go_enter Tryz.func55,Tryz.ntmps55;go_wp2_with (at_builtin;refine wpList_append_lies _ rfl _ _ 23 rfl B 39 i0 (.agg #[iv 0,iv 0,iv 0,iv 0,iv 0]) 5 40 Tryz.underlying23 hi0 hz0 hz1 hz2 rfl (by decide) _ L.length (L.flatMap fA) rfl ((unhide RW).alloc _) _ 1 1 [iv op,iv a,iv b,iv c,iv 0] rfl rfl ?c1 ?c2 (by decide) ?c3 ?c4 ?c5 _ rfl ?_)
 case c1=>
  intro q u hk
  match q,hk with
  | 0,hk=>simp at hk;subst hk;simp [Addr.add,go_sem]
  | 1,hk=>simp at hk;subst hk;simp [Addr.add,go_sem]
  | 2,hk=>simp at hk;subst hk;simp [Addr.add,go_sem]
  | 3,hk=>simp at hk;subst hk;simp [Addr.add,go_sem]
  | 4,hk=>simp at hk;subst hk;simp [Addr.add,go_sem]
  | q+5,hk=>simp at hk
 case c2=>intro u hu;simp at hu;rcases hu with e | e | e | e | e <;> subst e <;> rfl
 case c3=>unfold maxLen;omega
 case c4=>omega
 case c5=>simp;omega
 intro g cap' w2 how hgr hat hlt2;have PU:=hide (show RwB B w2 (.slice (some ⟨g,0,none⟩) (L.length+1) cap') (L++[⟨op,a,b,c,0⟩]) by unfold RwB;rw[List.flatMap_append,List.length_append];simpa [fA] using how);have BE:=hide (show Below B w w2 from Below.trans (Below.alloc (Below.refl B w) hB _) ⟨hgr.os,hgr.tape,hgr.output,hgr.size,fun k hk=>hgr.block k (by simp;omega) (fun e=>by have:=(World.ownsRow.lt (unhide RW) k e.symm).1;omega)⟩);clear how hgr hat;go_wp2_with fail;go_ret;exact⟨_,rfl,PU,BE⟩
theorem Cu.below{v w w':World}{c m:Nat}(h:Cu v w c m)(b:Below (c+1) w w')(hv:v.heap.size≤c+1):Cu v w' c m:=by
 obtain⟨e,l,nf,ad,n,k,a,s,c0,c1,c2,r⟩:=h;have q:=b.block c (by omega);exact⟨Below.trans e (b.mono hv),l,⟨Nat.lt_of_lt_of_le nf.1 b.size,fun j=>(World.frozen?_of_block (a:=⟨c,j,none⟩) q).trans (nf.2 j)⟩,ad,n,k,a,s,(World.cell?_of_block (a:=⟨c,0,none⟩) q).trans c0,(World.cell?_of_block (a:=⟨c,1,none⟩) q).trans c1,(World.cell?_of_block (a:=⟨c,2,none⟩) q).trans c2,r⟩
theorem RwB.only{c:Nat}{w w':World}{va:Value}{L:List Ak}(h:RwB (c+1) w va L)(o:Only (fun q=>q=c) w w'):RwB (c+1) w' va L:=
 ownsRow_of_block h fun k hk=>o.block k (h.lt k hk).2 (fun e=>by have:=(h.lt k hk).1;omega)
structure Ms(v w:World)(va:Value)(L:List Ak)(m:Nat):Prop where
 cu:Cu v w v.heap.size m
 rw:RwB (v.heap.size+1) w va L
theorem Ms.pick{v w w':World}{va:Value}{L:List Ak}{m k:Nat}(h:Ms v w va L m)(c:Cu v w' v.heap.size k)(o:Only (fun q=>q=v.heap.size) w w'):Ms v w' va L k:=⟨c,h.rw.only o⟩
theorem Ms.sz{v w:World}{va:Value}{L:List Ak}{m:Nat}(h:Ms v w va L m):v.heap.size+1≤w.heap.size:=h.cu.2.2.1.1
theorem madd(v w:World)(va:Value)(L:List Ak)(m:Nat)(op a b c:Int)(h:Ms v w va L m)(hl:L.length≤1000):
  Calls Tryz.prog 55 #[va,.int .i64 op,.int .i64 a,.int .i64 b,.int .i64 c] w fun e w'=>∃va',Hid (e=.returned va')∧Hid (Ms v w' va' (L++[⟨op,a,b,c,0⟩]) m):=
 (l6add_b _ w va L op a b c h.rw hl h.sz).mono fun _ _ ⟨va',e,r,q⟩=>⟨va',e,h.cu.below q (by omega),r⟩
theorem mpick(v w:World)(va:Value)(L:List Ak)(m:Nat)(n:Int)(h:Ms v w va L m)(hm:m≤999999)(hn:n≤1000000)(h1:1≤n):
  Calls Tryz.prog 54 #[.pointer (some ⟨v.heap.size,0,none⟩),iv n] w fun e w'=>∃r:Nat,Hid (e=.returned (iv r))∧(r:Int)<n∧Hid (Ms v w' va L (m+2))∧Ext v w':=
 (pick_n v w _ m n h.cu (by omega) hn h1).mono fun _ _ ⟨r,e,r0,r1,q,o⟩=>⟨r.toNat,by have:=unhide e;show _=_;rw[this];congr 2;omega,by omega,h.pick (unhide q) (unhide o),(unhide q).1⟩
theorem Ms.more{v w:World}{va:Value}{L:List Ak}{m k:Nat}(h:Ms v w va L m)(hk:m≤k):Ms v w va L k:=⟨h.cu.more hk,h.rw⟩
theorem Ms.ext{v w:World}{va:Value}{L:List Ak}{m:Nat}(h:Ms v w va L m):Ext v w:=h.cu.1
def slLen:Value→Nat
 | .slice _ n _=>n
 | _=>0
theorem RwB.len{B:Nat}{w:World}{va:Value}{L:List Ak}(h:RwB B w va L):∃ad cap,va=.slice ad L.length cap:=by
 obtain⟨_,⟨e,n⟩ | ⟨g,cap,cur,e,_⟩⟩:=h
 ·exact⟨none,0,by rw[e,n]⟩
 ·exact⟨_,cap,e⟩
def clearN:Nat→List Ak
 | 0=>[]
 | k+1=>clearN k++[ak 3 2 0 0,ak 8 0 2 k]
theorem clearN_len:∀k,(clearN k).length=2*k
 | 0=>rfl
 | k+1=>by simp [clearN,clearN_len k];omega
theorem madeBusy_any(R st:Nat)(hR:3000≤R∧R≤4000)(w:World)(u:Value)(h:ByAt w u):
  Calls Tryz.prog 49 #[.int .i64 R,.int .i64 st,u] w fun e w'=>∃va ms,Hid (e=.returned va)∧Hid (bOk R ms∧(headA0 st++bA ms).length≤520)∧Hid (RwB (w.heap.size+1) w' va (headA0 st++bA ms))∧Ext w w':=by
 obtain⟨ad,n,k,rfl,hn,hx⟩:=h;have CU:=hide (show Cu w (w.alloc (.cells #[.slice ad n k,iv 0,.int .u64 0] 79)) w.heap.size 0 from⟨(Ext.refl w).alloc _,Nat.le_refl _,⟨by simp [go_sem],fun j=>by simp [go_sem]⟩,ad,n,k,0,0,by simp [go_sem],by simp [go_sem],by simp [go_sem],by omega,by omega,hn,hx⟩);have M0:=hide (show Ms w (w.alloc (.cells #[.slice ad n k,iv 0,.int .u64 0] 79)) (.slice none 0 0) [] 0 from⟨unhide CU,World.ownsRow_nil _ _ _ _⟩);clear CU hx;go_enter Tryz.func49,Tryz.ntmps49;go_wp2_with (go_at_call 55;refine(madd w _ _ _ 0 _ _ _ _ (unhide M0) (by simp)).mono ?_;rintro e w9 ⟨va9,he9,M9⟩;have e9:=unhide he9;subst e9;clear he9 M0;have M0:=hide (unhide M9);clear M9);have M0:=hide (show Ms w w9 va9 (headA0 st++bA []) 0 from by simpa [headA0,bA,ak] using unhide M0);go_loopw [8,9] (fun va li wr=>∃(ms:List (Option (Nat×Option Nat))) (m:Nat),Hid (bOk R ms)∧li=.int .i64 (bL ms:Nat)∧bL ms≤4000∧Hid (Ms w wr va (headA0 st++bA ms) m)∧m≤20*(headA0 st++bA ms).length∧(headA0 st++bA ms).length≤520) (fun va _ _=>600-slLen va)
 case atStart=>exact⟨[],0,trivial,rfl,by simp [bL],M0,by omega,by simp [headA0,bA]⟩
 case round=>
  clear M0;obtain⟨ms,m,OK,rfl,hl,MS,hm,hlen⟩:=hrel;obtain⟨a8,k8,e8⟩:=(unhide MS).rw.len;obtain⟨nl,hnl⟩:∃nl,nl=(headA0 st++bA ms).length:=⟨_,rfl⟩;rw[←hnl] at e8 hm hlen;subst e8;have HNL:=hide hnl;clear hnl;go_wp2_with fail;refine(mpick w _ _ _ m 200 (unhide MS) (by omega) (by omega) (by omega)).mono ?_;rintro e w1 ⟨r,he,hr,M1,x1⟩;have e1:=unhide he;subst e1;clear he MS;by_cases hc:(nl:Int)<300+(r:Int)
  ·go_wp2_with fail;refine(mpick w _ _ _ _ 90 (unhide M1) (by omega) (by omega) (by omega)).mono ?_;rintro e w2 ⟨n,he,hn2,M2,x2⟩;have e1:=unhide he;subst e1;clear he M1 x1
   go_upto_region 8 with(fail)
   go_cut [41] (fun v wx=>∃b:Bool,v=.bool b∧Hid (b=false→bL ms+(1+n)+20≤R / 4)∧Hid (Ms w wx (.slice a8 nl k8) (headA0 st++bA ms) (m+6)))
   case first=>
    by_cases hbig:(R:Int) / 4-20<(bL ms:Int)+(n:Int)+1
    ·go_wp2_with fail;go_meet;exact⟨true,rfl,(fun h=>by cases h),(unhide M2).more (by omega)⟩
    ·go_wp2_with fail;refine(mpick w _ _ _ _ 12 (unhide M2) (by omega) (by omega) (by omega)).mono ?_;rintro e w3 ⟨r3,he,hr3,M3,x3⟩;have e1:=unhide he;subst e1;go_wp2_with fail;go_meet;exact⟨_,rfl,fun _=>by omega,unhide M3⟩
   case rest=>
    have hnl:nl≤498:=by omega
    clear M2 x2 hc hr;obtain⟨b,rfl,HB,M4⟩:=hcut;cases b
    ·have hok:=hide (unhide HB rfl);clear HB;have SN:=hide (show ∀o,(∀k,o=some k→0<n∧k<4)→bOk R (some (n,o)::ms) from fun o h=>⟨unhide OK,by omega,unhide hok,h⟩);go_wp2_with fail;refine(madd w _ _ _ _ _ _ _ _ (unhide M4) (by rw[←unhide HNL];omega)).mono ?_;rintro e w4 ⟨va4,he,M5⟩;have e1:=unhide he;subst e1;clear he M4;have hb4:bL ms+(1+n)≤4000:=by have:=unhide hok;omega
     by_cases n0:0<n
     ·have n0i:(0:Int)<(n:Int):=by omega
      go_wp2_with fail;refine(mpick w _ _ _ _ 3 (unhide M5) (by omega) (by omega) (by omega)).mono ?_;rintro e w5 ⟨r5,he,hr5,M6,x5⟩;have e1:=unhide he;subst e1;clear he M5;by_cases r0:(0:Int)<(r5:Int)
      ·go_wp2_with fail;refine(mpick w _ _ _ _ 4 (unhide M6) (by omega) (by omega) (by omega)).mono ?_;rintro e w6 ⟨k6,he,hk6,M7,x6⟩;have e1:=unhide he;subst e1;clear he M6;go_wp2_with (go_at_call 55;refine(madd w _ _ _ _ _ _ _ _ (unhide M7) (by simp only [List.length_append,List.length_cons,List.length_nil];have:=unhide HNL;simp only [List.length_append] at this;omega)).mono ?_;rintro e w9 ⟨va9,he9,M9⟩;have e9:=unhide he9;subst e9;clear he9 M7;have M7:=hide (unhide M9);clear M9);have M8:=hide (show Ms w w9 va9 (headA0 st++bA (some (n,some k6)::ms)) (m+10) from by have:=unhide M7;simpa [bA,mvA,hangA,ak] using this);have LN:=hide (show(headA0 st++bA (some (n,some k6)::ms)).length=nl+5 by rw[unhide HNL];simp [bA,mvA,hangA];omega);have E8:=(unhide M8).rw.len;rw[unhide LN] at E8;obtain⟨a9,k9,e9⟩:=E8;subst e9;go_roundw
       case rel=>exact⟨some (n,some k6)::ms,m+10,unhide SN _ (fun k h=>by cases h;exact⟨n0,by omega⟩),by show _=Value.int .i64 ((bL ms+(1+n):Nat):Int);go_num,hb4,unhide M8,by rw[unhide LN];omega,by rw[unhide LN];omega⟩
       case measure=>simp [slLen];omega
      ·go_wp2_with fail;have M8:=hide (show Ms w w5 va4 (headA0 st++bA (some (n,none)::ms)) (m+8) from by have:=unhide M6;simpa [bA,mvA,ak] using this);have LN:=hide (show(headA0 st++bA (some (n,none)::ms)).length=nl+1 by rw[unhide HNL];simp [bA,mvA];omega);have E8:=(unhide M8).rw.len;rw[unhide LN] at E8;obtain⟨a9,k9,e9⟩:=E8;subst e9;go_roundw
       case rel=>exact⟨some (n,none)::ms,m+8,unhide SN _ (fun k h=>by cases h),by show _=Value.int .i64 ((bL ms+(1+n):Nat):Int);go_num,hb4,unhide M8,by rw[unhide LN];omega,by rw[unhide LN];omega⟩
       case measure=>simp [slLen];omega
     ·have n0i:¬(0:Int)<(n:Int):=by omega
      go_wp2_with fail;have M8:=hide (show Ms w w4 va4 (headA0 st++bA (some (n,none)::ms)) (m+6) from by have:=unhide M5;simpa [bA,mvA,ak] using this);have LN:=hide (show(headA0 st++bA (some (n,none)::ms)).length=nl+1 by rw[unhide HNL];simp [bA,mvA];omega);have E8:=(unhide M8).rw.len;rw[unhide LN] at E8;obtain⟨a9,k9,e9⟩:=E8;subst e9;go_roundw
      case rel=>exact⟨some (n,none)::ms,m+6,unhide SN _ (fun k h=>by cases h),by show _=Value.int .i64 ((bL ms+(1+n):Nat):Int);go_num,hb4,unhide M8,by rw[unhide LN];omega,by rw[unhide LN];omega⟩
      case measure=>simp [slLen];omega
    ·clear HB;go_wp2_with fail;go_loopw [8,11] (fun va i wx=>∃k:Nat,k≤4∧i=.int .i64 k∧Hid (Ms w wx va (headA0 st++bA ms++clearN k) (m+6))) (fun _ i _=>4-(intOf i).toNat)
     case atStart=>exact⟨0,by omega,rfl,hide (by simpa [clearN] using unhide M4)⟩
     case round=>
      clear M4;obtain⟨k,hk,rfl,M5⟩:=hrel;by_cases hlt:(k:Int)<4
      ·go_wp2_with (go_at_call 55;refine(madd w _ _ _ _ _ _ _ _ (unhide M5) (by simp only [List.length_append,List.length_cons,List.length_nil,clearN_len];have:=unhide HNL;simp only [List.length_append] at this;omega)).mono ?_;rintro e w9 ⟨va9,he9,M9⟩;have e9:=unhide he9;subst e9;clear he9 M5;have M5:=hide (unhide M9);clear M9);go_roundw
       case rel=>exact⟨k+1,by omega,by go_num,hide (by have:=unhide M5;simpa [clearN,ak] using this)⟩
       case measure=>simp [intOf];omega
      ·have ek:k=4:=by omega
       subst ek;go_wp2_with (go_at_call 55;refine(madd w _ _ _ _ _ _ _ _ (unhide M5) (by simp only [List.length_append,clearN_len];have:=unhide HNL;simp only [List.length_append] at this;omega)).mono ?_;rintro e w9 ⟨va9,he9,M9⟩;have e9:=unhide he9;subst e9;clear he9 M5;have M5:=hide (unhide M9);clear M9);have M8:=hide (show Ms w w9 va9 (headA0 st++bA (none::ms)) (m+6) from by have:=unhide M5;rw[List.append_assoc,List.append_assoc] at this;exact this);have LN:=hide (show(headA0 st++bA (none::ms)).length=nl+9 by rw[unhide HNL];simp [bA,mvA,clearA];omega);have E8:=(unhide M8).rw.len;rw[unhide LN] at E8;obtain⟨a9,k9,e9⟩:=E8;subst e9;go_roundw
       case rel=>exact⟨none::ms,m+6,⟨unhide OK,trivial⟩,rfl,by simp [bL,mvL],unhide M8,by rw[unhide LN];omega,by rw[unhide LN];omega⟩
       case measure=>simp [slLen];omega
  ·go_wp2_with fail;go_ret;exact⟨_,ms,rfl,⟨unhide OK,by rw[←unhide HNL];exact hlen⟩,(unhide M1).rw,x1⟩
end Go.Proofs.YtddkhnclmeikfaaGreat
