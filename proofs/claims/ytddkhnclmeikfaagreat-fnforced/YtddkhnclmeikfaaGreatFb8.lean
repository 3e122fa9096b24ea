import Derived.Test.YtddkhnclmeikfaaGreatCa3
import Derived.Test.YtddkhnclmeikfaaGreatFb6
import Derived.Test.YtddkhnclmeikfaaGreatFb7
namespace Go.Proofs.YtddkhnclmeikfaaGreat
set_option maxRecDepth 100000
set_option maxHeartbeats 8000000
open Go.RowKit
attribute [local go_sem ↓] Go.wp_at_zero Go.wp_at_succ
def fZ(x:Int):List Value:=[iv 0,iv x]
theorem ownZ{w:World}{base:Nat}{v:Value}{L:List Int}(h:w.ownsRow base 41 2 v L.length (L.flatMap fZ))(hl:L.length≤1048576):SlM w v L:=by
 obtain⟨ad,cap,e,_,hx⟩:=own_cells (f:=fZ) (c:=2) (fun _=>rfl) h;refine⟨ad,cap,e,by omega,fun i hi=>?_⟩;obtain⟨g,ea,_,_,hc⟩:=hx i hi;exact⟨g,0,ea,by have:=hc 0 (by omega);simpa [fZ] using this,by have:=hc 1 (by omega);simpa [fZ] using this⟩
theorem ido_any{K:KW}{B:Nat}{w:World}{s:Nat}{R:Int}{g g':List Wd}{T T':List (List Pr)}{br:Nat}{vt:Value}{pb:Nat→Nat}{A:Ak}(st:Sti R g T A g' T')(h:IW K B w s R g T br vt pb)(hR:R≤4000)(v:World)(hv:v.heap.size≤B)(hx:Ext v w):
  Calls Tryz.prog 101 #[.pointer (some ⟨s,0,none⟩),actV A.op A.a A.b A.c A.n] w (IP K B v s R g' T' br):=by
 rcases st with ⟨_,a,rfl,rfl,rfl⟩|⟨_,_,b,c,rfl,rfl,rfl⟩|⟨_,_,_,_,a,b,i,c,c2,k,e,rfl,rfl,rfl⟩|⟨_,_,_,_,a,b,i,c,c2,k,e,rfl,rfl,rfl⟩|⟨_,_,P,M,a,c,rp,kp,t,l,m,u,rfl,rfl,rfl⟩
 · exact ido_3 h _ a v hv hx
 · exact ido_23 h _ _ b c v hx
 · exact ido_6 _ _ _ _ a b i c c2 k e h v hv hx
 · exact ido_8 _ _ _ _ a b i c c2 k e h v hv hx
 · exact ido_1 h _ _ a c P M rp kp t l m u hR v hv hx
structure LI(L:List Ak)(R:Int)(gF:List Wd)(TF:List (List Pr))(v wr:World)(s br k:Nat)(vo:Value):Prop where
 hk:k≤L.length
 ex:∃g1 T1 vt pb,Rni R g1 T1 (L.drop k) gF TF∧IW ⟨fun q=>vo.ownBlock=some q,wr⟩ v.heap.size wr s R g1 T1 br vt pb
 ow:wr.ownsRow v.heap.size 41 2 vo k ((List.replicate k (0:Int)).flatMap fZ)
 e:Ext v wr
structure LD(L:List Ak)(R:Int)(gF:List Wd)(TF:List (List Pr))(v wr:World)(s br k:Nat)(vo:Value):Prop where
 ex:∃g1 T1 vt pb,Rni R g1 T1 (L.drop (k+1)) gF TF∧IW ⟨fun q=>vo.ownBlock=some q,wr⟩ v.heap.size wr s R g1 T1 br vt pb
 ow:wr.ownsRow v.heap.size 41 2 vo k ((List.replicate k (0:Int)).flatMap fZ)
 e:Ext v wr
section
variable {L : List Ak} {R : Int} {gF : List Wd} {TF : List (List Pr)} {v wr : World} {s br k : Nat} {vo : Value}
theorem kq_ext{K:KW}{K':KW}{B:Nat}{w:World}{s:Nat}{R:Int}{g:List Wd}{T:List (List Pr)}{br:Nat}{vt:Value}{pb:Nat→Nat}(h:IW K B w s R g T br vt pb)(e:K'.S=K.S)(e2:K'.W=w):IW K' B w s R g T br vt pb:=h.key (fun k hk=>let z:=h.kq k (by rw[←e];exact hk);⟨z.1,by rw[e2],z.2.2⟩)
theorem LI.ext{w':World}(h:LI L R gF TF v wr s br k vo)(x:Ext wr w'):LI L R gF TF v w' s br k vo:=by
 obtain⟨g1,T1,vt,pb,r,i⟩:=h.ex;exact⟨h.hk,⟨g1,T1,vt,pb,r,kq_ext (i.ext x) rfl rfl⟩,ownsRow_of_block h.ow (fun q hq=>x.block q (h.ow.lt q hq).2),h.e.trans x⟩
theorem LD.ext{w':World}(h:LD L R gF TF v wr s br k vo)(x:Ext wr w'):LD L R gF TF v w' s br k vo:=by
 obtain⟨g1,T1,vt,pb,r,i⟩:=h.ex;exact⟨⟨g1,T1,vt,pb,r,kq_ext (i.ext x) rfl rfl⟩,ownsRow_of_block h.ow (fun q hq=>x.block q (h.ow.lt q hq).2),h.e.trans x⟩
theorem LI.step(h:LI L R gF TF v wr s br k vo)(hlt:k<L.length)(hR:R≤4000)(W:World)(x:Ext wr W):
  Calls Tryz.prog 101 #[.pointer (some ⟨s,0,none⟩),actV L[k].op L[k].a L[k].b L[k].c L[k].n] W fun e w'=>e=.returned (ansV 0 0)∧Hid (LD L R gF TF v w' s br k vo):=by
 have h:=h.ext x;obtain⟨g1,T1,vt,pb,r,i⟩:=h.ex;rw[List.drop_eq_getElem_cons hlt] at r;obtain ⟨_,_,st,r⟩ := r
 refine(ido_any st i hR v (Nat.le_refl _) h.e).mono ?_;rintro e w' ⟨vt',pb',he,i',x'⟩;have i2:=unhide i';exact⟨unhide he,⟨_,_,_,_,r,kq_ext i2 rfl rfl⟩,ownsRow_of_block h.ow (fun q hq=>(i2.kq q hq).2.1),x'⟩
theorem LD.push{w' w5:World}{gb cap:Nat}(h:LD L R gF TF v wr s br k vo)(hlt:k<L.length)(x:Ext wr w')(hown:w5.ownsRow v.heap.size 41 2 (.slice (some ⟨gb,0,none⟩) (k+1) cap) (k+1) ((List.replicate k (0:Int)).flatMap fZ++fZ 0))(hgr:w'.grownBy w5 vo.ownBlock)(hat:vo.ownBlock=some gb∨gb=w'.heap.size)(hg:gb<w5.heap.size):LI L R gF TF v w5 s br (k+1) (.slice (some ⟨gb,0,none⟩) (k+1) cap):=by
 have h:=h.ext x;obtain⟨g1,T1,vt,pb,r,i⟩:=h.ex;have kq:=i.kq;have bl:∀q,q<w'.heap.size→vo.ownBlock≠some q→w5.heap[q]?=w'.heap[q]?:=fun q l n=>hgr.block q l (fun e=>n e.symm)
 have on:Only (fun q=>vo.ownBlock=some q) w' w5:=⟨hgr.os,hgr.tape,hgr.output,hgr.size,fun q l n=>bl q l n⟩;have i0:IW ⟨fun _=>False,w'⟩ v.heap.size w' s R g1 T1 br vt pb:=i.key (fun _ e=>e.elim)
 have i5:=i0.blk (w':=w5) hgr.size (fun q l m=>bl q l (fun e=>by
  obtain⟨_,_,k3,k4,k5,k6⟩:=kq q e;rcases m with m | m | m | ⟨j,hj,m⟩ | m
  ·exact k3 m
  ·exact k4 m
  ·exact k5 m
  ·exact k6 j hj m
  ·exact m))
 refine⟨hlt,⟨g1,T1,vt,pb,r,i5.key (fun q e=>?_)⟩,?_,on.ext h.e (fun q hq e=>by have:=(h.ow.lt q e).1;omega)⟩
 ·have e:gb=q:=by simpa [Value.ownBlock] using e
  subst e;refine⟨hg,rfl,?_⟩;rcases hat with e | e
  ·obtain⟨_,_,k3⟩:=kq gb e;exact k3
  ·have:=i0.far (k:=gb) (by omega);exact⟨this.1,this.2.1,this.2.2.1,this.2.2.2.1⟩
 ·rw[List.replicate_succ',List.flatMap_append]
  simpa using hown
end
theorem LI.start(L:List Ak)(R:Int)(gF:List Wd)(TF:List (List Pr))(w:World)(t1 t2:TypeId)(run:Rni R g0I [] L gF TF):LI L R gF TF w ((w.alloc (.cells (zw 48) t1)).alloc (.cells #[iv R,.slice (some ⟨w.heap.size,0,none⟩) 16 16,.slice none 0 0] t2)) (w.heap.size+1) w.heap.size 0 (.slice none 0 0):=by
 have b:((w.alloc (.cells (zw 48) t1)).alloc (.cells #[iv R,.slice (some ⟨w.heap.size,0,none⟩) 16 16,.slice none 0 0] t2)).heap[w.heap.size]?=some (.cells (zw 48) t1):=by
  rw[Below.heap_alloc _ _ _ (by simp)];exact heap_alloc_new w _
 have z:∀j,j<48→((w.alloc (.cells (zw 48) t1)).alloc (.cells #[iv R,.slice (some ⟨w.heap.size,0,none⟩) 16 16,.slice none 0 0] t2)).cell? ⟨w.heap.size,j,none⟩=some (iv 0):=fun j hj=>by
  rw[cell_of_row _ w.heap.size j _ _ (0,0) b];simp [zw,hj]
 refine⟨Nat.zero_le _,⟨g0I,[],.slice none 0 0,fun _=>0,by simpa using run,⟨by omega,by omega,by omega⟩,⟨by simp,fun j=>by simp [go_sem]⟩,⟨by simp;omega,fun j=>by simp [go_sem]⟩,by simp [go_sem],by simp [go_sem],by simp [go_sem],by simp [g0I],fun i hi=>?_,by simpa [rowsI] using World.ownsRow_nil _ _ _ _,⟨by simp [Value.ownBlock],by simp [Value.ownBlock]⟩,fun i hi=>by simp at hi,fun i j hi=>by simp at hi,fun i hi=>by simp at hi,fun k hk=>by simp [Value.ownBlock] at hk⟩,by simpa using World.ownsRow_nil _ _ _ _,((Ext.refl w).alloc _).alloc _⟩;rw[g0I_r];exact⟨z _ (by omega),z _ (by omega),z _ (by omega)⟩
theorem l6ideally_any(R:Int)(L:List Ak)(gF:List Wd)(TF:List (List Pr))(va:Value)(w:World)(hS:SlA w va L)(hn:L.length≤1000)(hR:R≤4000)(run:Rni R g0I [] L gF TF):
  Calls Tryz.prog 61 #[.int .i64 R,va] w fun e w'=>∃s br vo,Hid (e=.returned (.tuple #[.pointer (some ⟨s,0,none⟩),vo]))∧Hid (LI L R gF TF w w' s br L.length vo):=by
 obtain⟨ad,cap,rfl,hl,hxs⟩:=hS;obtain⟨i0,hi0,hz0,hz1,hz2⟩:=info_parts infoAns;have mk:=mk16;have HX:=hide hxs;have I0:=hide (LI.start L R gF TF w 152 96 run);have ST:=hide (fun(wr W:World) (k:Nat) (vo:Value) (hi:LI L R gF TF w wr (w.heap.size+1) w.heap.size k vo) (hlt:k<L.length) (xW:Ext wr W)=>hi.step hlt hR W xW);clear hxs run hR;go_enter Tryz.func61,Tryz.ntmps61;go_wp2_with fail;go_loopw [7,16] (fun vo i wr=>∃k:Nat,i=.int .i64 k∧Hid (LI L R gF TF w wr (w.heap.size+1) w.heap.size k vo)) (fun _ i _=>L.length-(intOf i).toNat)
 case atStart=>exact⟨0,rfl,I0⟩
 case round=>
  clear I0 mk;obtain⟨k,rfl,hi⟩:=hrel;have hk:=(unhide hi).hk;by_cases hlt:k<L.length
  ·obtain⟨b1,o1,rfl,p0,p1,p2,p3,p4⟩:=unhide HX k hlt;have e0:=(unhide hi).e.keep p0;have e1:=(unhide hi).e.keep p1;have e2:=(unhide hi).e.keep p2;have e3:=(unhide hi).e.keep p3;have e4:=(unhide hi).e.keep p4;clear p0 p1 p2 p3 p4;have hk0:(0:Int)≤(k:Int):=by omega
   have hk1:(k:Int)<(L.length:Int):=by omega
   go_wp2_with fail;refine(unhide ST wr _ k u7 (unhide hi) hlt ((Ext.refl wr).alloc _)).mono ?_;rintro e w2 ⟨rfl,hd⟩;have HO:=hide (unhide hd).ow;have BO:=hide (unhide hd).e.size;clear ST e0 e1 e2 e3 e4;go_wp2_with (at_builtin;refine wpList_append_lies _ rfl _ _ 29 rfl w.heap.size 41 i0 (.agg #[iv 0,iv 0]) 2 16 Tryz.underlying29 hi0 hz0 hz1 hz2 rfl (by decide) _ k ((List.replicate k (0:Int)).flatMap fZ) rfl ((unhide HO).alloc _) _ 1 1 (fZ 0) rfl rfl ?c1 ?c2 (by decide) ?c3 ?c4 ?c5 _ rfl ?_)
   case c1=>
    intro q u hk
    match q,hk with
    | 0,hk=>simp [fZ] at hk;subst hk;simp [Addr.add,go_sem]
    | 1,hk=>simp [fZ] at hk;subst hk;simp [Addr.add,go_sem]
    | q+2,hk=>simp [fZ] at hk
   case c2=>intro u hu;simp [fZ] at hu;subst hu;rfl
   case c3=>unfold maxLen;omega
   case c4=>omega
   case c5=>have:=unhide BO;simp;omega
   intro gb cap' w5 how hgr hat hlt2;have PU:=hide ((unhide hd).push hlt ((Ext.refl w2).alloc _) how hgr (by simpa using hat) hlt2);clear how hgr hat hd HO hi;go_wp2_with fail;go_roundw
   case rel=>exact⟨k+1,by go_num,PU⟩
   case measure=>simp [intOf];omega
  ·have ek:k=L.length:=by omega
   subst ek;go_wp2_with fail;refine bodyPost_ret (v:=.tuple #[.pointer (some ⟨w.heap.size+1,0,none⟩),u7]) (by simp [results,Tryz.results61,go_sem]) rfl ?_;exact⟨_,_,_,rfl,hi⟩
end Go.Proofs.YtddkhnclmeikfaaGreat
