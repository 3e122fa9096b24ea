import Derived.Test.YtnegjhddmfiefaaGreatDoorFr0
set_option maxRecDepth 100000
set_option maxHeartbeats 1000000
namespace Go.Proofs.YtnegjhddmfiefaaGreatDoor
open Go.RowKit
attribute [local go_sem ↓] Go.wp_at_zero Go.wp_at_succ
def frH(n:Int):Hp:=⟨n,0,0,List.replicate 16 ⟨0,0,0⟩,[],0,0,0,[],0,0,0,0⟩
theorem frH_snd(n:Int)(h1:1≤n)(h2:n≤4000):Snd (frH n):=by
 have hc:(frH n).cells=[]:=rfl;refine⟨⟨⟨h1,h2⟩,by simp [frH],by simp [frH];omega,by simp [frH],by simp [frH],by simp [frH],by simp [frH],by simp [frH],by simp [frH],by simp [frH],by simp [frH],by simp [frH]⟩,⟨fun i hi=>by simp [hc] at hi,fun i hi=>by simp [hc] at hi⟩,⟨by simp [frH,units],by simp [frH];omega⟩,⟨fun i hi=>?_,fun i hi=>by simp [hc] at hi⟩,⟨fun _=>rfl,fun i hi=>by simp [hc] at hi,fun q hq=>by simp [frH] at hq⟩,⟨fun _=>⟨rfl,rfl⟩,fun e=>by simp [frH] at e,fun e=>by simp [frH] at e,fun _=>rfl⟩,fun _ i hi=>by simp [hc] at hi,fun i hi=>by simp [hc] at hi⟩;have e:(frH n).regs[i]=⟨0,0,0⟩:=List.eq_of_mem_replicate (n:=16) (List.getElem_mem hi);rw[e];exact⟨.inl ⟨rfl,rfl,rfl⟩,fun h=>by cases h⟩
theorem zw_cell(w:World)(t:TypeId)(j:Nat)(hj:j<48):(w.alloc (.cells (zw 48) t)).cell? ⟨w.heap.size,j,none⟩=some (iv 0):=by
 have:=heap_alloc_new w (.cells (zw 48) t);unfold World.cell?;simp only [this];simp [zw,hj]
theorem nf1_new(w:World)(c:Array Value)(t:TypeId):Nf1 w.heap.size (w.alloc (.cells c t)):=⟨by simp [go_sem],fun j=>by simp [go_sem]⟩
theorem fresh_gg(S:Nat→Prop)(n:Int)(w:World)(hS:∀q,S q→q<w.heap.size):GG S w.heap.size ((w.alloc (.cells (zw 48) 139)).alloc (.cells #[iv n,iv 0,iv 0,.slice (some ⟨w.heap.size,0,none⟩) 16 16,.slice none 0 0,iv 0,iv 0,iv 0,.slice none 0 0,iv 0,iv 0,iv 0,iv 0] 119)) (w.heap.size+1) (frH n):=by
 have x0:=(Ext.refl w).alloc (.cells (zw 48) 139);have N0:=nf1_new w (zw 48) 139;have Z:=fun j hj=>zw_cell w 139 j hj
 obtain⟨W0,h0⟩:∃W0,W0=w.alloc (.cells (zw 48) 139):=⟨_,rfl⟩;rw[←h0] at x0 N0 Z ⊢;have s0:W0.heap.size=w.heap.size+1:=by rw[h0];simp [go_sem]
 clear h0;have x1:=(Ext.refl W0).alloc (.cells #[iv n,iv 0,iv 0,.slice (some ⟨w.heap.size,0,none⟩) 16 16,.slice none 0 0,iv 0,iv 0,iv 0,.slice none 0 0,iv 0,iv 0,iv 0,iv 0] 119);have N1:=nf1_new W0 #[iv n,iv 0,iv 0,.slice (some ⟨w.heap.size,0,none⟩) 16 16,.slice none 0 0,iv 0,iv 0,iv 0,.slice none 0 0,iv 0,iv 0,iv 0,iv 0] 119;have HB:=HBox.new W0 (frH n) (.slice (some ⟨w.heap.size,0,none⟩) 16 16) (.slice none 0 0) (.slice none 0 0) 119;rw[s0] at N1 HB;obtain⟨W1,h1⟩:∃W1,W1=W0.alloc (.cells #[iv n,iv 0,iv 0,.slice (some ⟨w.heap.size,0,none⟩) 16 16,.slice none 0 0,iv 0,iv 0,iv 0,.slice none 0 0,iv 0,iv 0,iv 0,iv 0] 119):=⟨_,rfl⟩;have HB:HBox (W0.alloc (.cells #[iv n,iv 0,iv 0,.slice (some ⟨w.heap.size,0,none⟩) 16 16,.slice none 0 0,iv 0,iv 0,iv 0,.slice none 0 0,iv 0,iv 0,iv 0,iv 0] 119)) (w.heap.size+1) (frH n) (.slice (some ⟨w.heap.size,0,none⟩) 16 16) (.slice none 0 0) (.slice none 0 0):=HB;rw[←h1] at x1 N1 HB ⊢;clear h1;have e:(frH n).regs.length=16:=by simp [frH]
 have ec:(frH n).cells=[]:=rfl;refine⟨fun q=>if q<w.heap.size then W1.heap[q]? else none,fun q hq=>?_,some ⟨w.heap.size,0,none⟩,16,none,0,.slice none 0 0,w.heap.size,0,fun _=>0,fun _=>none,fun _=>0,fun q=>if q=w.heap.size+1 then 0 else if q=w.heap.size then 2 else 1,?_⟩
 ·have:=hS q hq;simp only [this,if_true];exact obj_some (by have:=x1.size;omega)
 ·letI:Inhabited ProtD:=⟨⟨fun q=>if q<w.heap.size then W1.heap[q]? else none⟩⟩
  refine⟨by rw[e];exact HB,N1,by omega,fun _=>rfl,fun h=>by simp [ec] at h,⟨fun i hi=>?_,fun q hq=>by simp [ec] at hq,fun q hq=>by simp [ec] at hq,fun q hq=>by simp [ec] at hq,fun q hq=>by simp [ec] at hq,fun _=>⟨N0.ext x1,Nat.le_refl _⟩,fun h=>by simp [ec] at h,fun h=>by simp [ec] at h,fun q _ hq=>by simp [ec] at hq,fun q hq=>by simp [ec] at hq⟩,.inl ⟨rfl,rfl⟩,⟨if_pos rfl,fun _=>by rw[if_neg (by omega),if_pos rfl],fun h=>by simp [ec] at h,fun q hq=>by simp [Value.ownBlock] at hq,fun q hq=>by simp [ec] at hq⟩,by simp [ec],fun q o hq=>?_,fun h=>by omega⟩
  ·have hi2:i<16:=e ▸ hi;have e3:(frH n).regs[i]=⟨0,0,0⟩:=List.eq_of_mem_replicate (n:=16) (List.getElem_mem hi);exact(congrArg (WdAt W1 w.heap.size (i*3)) e3).mpr ⟨x1.keep (Z _ (by omega)),x1.keep (Z _ (by omega)),x1.keep (Z _ (by omega))⟩
  ·have hq:(if q<w.heap.size then W1.heap[q]? else none)=some o:=hq
   split at hq
   ·exact⟨by rw[if_neg (by omega),if_neg (by omega)],hq⟩
   ·cases hq
theorem rooms_any(v w:World)(c m:Nat)(h:Cu v w c m)(hm:m≤99999):
  Calls Tryz.prog 48 #[.pointer (some ⟨c,0,none⟩)] w fun e w'=>∃r:Int,Hid (e=.returned (iv r))∧1≤r∧r≤4000∧Hid (Cu v w' c (m+4)):=by
 have CU:=hide h;clear h;go_enter Tryz.func48,Tryz.ntmps48;go_wp2_with (go_at_call 27;refine(pick_n v _ c _ _ (unhide CU) (by omega) (by omega) (by omega)).mono ?_;rintro e w1 ⟨r,he,r0,r1,cu,o⟩;have e2:=unhide he;subst e2;clear he o CU;have CU:=cu;clear cu)
 all_goals
  go_ret;exact⟨_,rfl,by omega,by omega,unhide CU⟩
theorem lbegin_any(v w:World)(c m:Nat)(n:Int)(h1:1≤n)(h2:n≤4000)(h:Cu v w c m):
  Calls Tryz.prog 49 #[.pointer (some ⟨c,0,none⟩),iv n] w fun e w'=>∃b g B,Hid (e=.returned (.pointer (some ⟨b,0,none⟩)))∧Hid (Bd B v w' b c g m):=by
 have CU:=hide h;have GF:=hide (fresh_gg (fun q=>q=c) n w (fun q e=>by have:=h.2.2.1.1;omega));have XF:=hide (((Ext.refl w).alloc (.cells (zw 48) 139)).alloc (.cells #[iv n,iv 0,iv 0,.slice (some ⟨w.heap.size,0,none⟩) 16 16,.slice none 0 0,iv 0,iv 0,iv 0,.slice none 0 0,iv 0,iv 0,iv 0,iv 0] 119));have SF:=hide (show((w.alloc (.cells (zw 48) 139)).alloc (.cells #[iv n,iv 0,iv 0,.slice (some ⟨w.heap.size,0,none⟩) 16 16,.slice none 0 0,iv 0,iv 0,iv 0,.slice none 0 0,iv 0,iv 0,iv 0,iv 0] 119)).heap.size=w.heap.size+2 by simp [go_sem]);clear h;have Q:=hide (l1fresh_any n w);go_enter Tryz.func49,Tryz.ntmps49;go_wp2_with fail;refine(unhide Q).mono ?_;rintro e w1 ⟨rfl,hw⟩;rw[←hw] at GF XF SF;clear hw Q;go_wp2_with fail;go_ret;have xb:=(Ext.refl w1).alloc (.cells #[.pointer (some ⟨c,0,none⟩),.pointer (some ⟨w.heap.size+1,0,none⟩),.slice none 0 0,iv 400] 95);have nb:=nf1_new w1 #[.pointer (some ⟨c,0,none⟩),.pointer (some ⟨w.heap.size+1,0,none⟩),.slice none 0 0,iv 400] 95;have hc:=(unhide CU).2.2.1.1;have hv:=(unhide CU).1.size;have hs:=unhide SF;refine⟨w1.heap.size,w.heap.size+1,w.heap.size,rfl,frH n,[],.slice none 0 0,400,⟨frH_snd n h1 h2,fun a ha=>(by simp at ha),by simp,(unhide CU).blk (((unhide CU).1.trans (unhide XF)).trans xb) (by rw[xb.block c (by omega)];exact(unhide XF).block c hc),hv,by omega,by omega,nb,by simp [go_sem],by simp [go_sem],by simp [go_sem],by simp [go_sem],World.ownsRow_nil _ _ _ _,by simp [Value.ownBlock],by simp [Value.ownBlock],(unhide GF).more xb (fun q hq=>?_)⟩⟩;rcases hq with e | e | e
 ·exact .inr ⟨by omega,by rw[e];exact nb.1⟩
 ·exact .inl e
 ·simp [Value.ownBlock] at e
def ByAt(w:World)(v:Value):Prop:=∃(ad:Option Addr) (n k:Nat),v=.slice ad n k∧n≤1048576∧∀i,i<n→∃b o z,ad=some ⟨b,o,none⟩∧w.cell? ⟨b,o+i,none⟩=some (.int .u8 z)∧0≤z∧z<256
end Go.Proofs.YtnegjhddmfiefaaGreatDoor
namespace Go.Proofs.YtnegjhddmfiefaaGreatDoor
open Go.ChangeShapes Go.WideShapes Go.ChangeAt Go.RowKit
attribute [local go_sem ↓] Go.wp_at_zero Go.wp_at_succ
def ByL(w:World)(v:Value):Prop:=∃(ad:Option Addr) (n k:Nat),v=.slice ad n k∧n≤9223372036854775807∧∀i,i<n→∃b o z,ad=some ⟨b,o,none⟩∧w.cell? ⟨b,o+i,none⟩=some (.int .u8 z)∧0≤z∧z<256
theorem cells5:Tryz.prog.cellsOf 5=1:=by kernel_rfl
theorem rd_bytes{H:Type}{enc:TypeId×Value→H}{w:World}{base:Nat}{r:Reach}{b0:Nat}{held:Bool}{v:Value}{d:DataW H}{p:List MemPlace}(hok:Value.okWide Tryz.prog w r b0 22 v)(h:DataW.Trod enc Tryz.prog w base (fun _=>true) held 22 v d p):ByL w v:=by
 obtain⟨ad,len,cap,rfl⟩:=okWide_slice Tryz.underlying22 hok;obtain⟨fuel,ht⟩:=h;rcases open_ints Tryz.underlying22 Tryz.underlying5 cells5 ht with⟨hcs,_⟩ | ⟨a,len',cap',zs,hcs,_,hl,hm,hz,_,hcell,hwz⟩
 ·have e:Value.slice ad len cap=.slice none 0 0:=by simpa [Value.cells] using hcs
  cases e;exact⟨none,0,0,rfl,by omega,fun i hi=>by omega⟩
 ·have e:Value.slice ad len cap=.slice (some a) len' cap':=by simpa [Value.cells] using hcs
  cases e;simp only [if_true] at hz;refine⟨some a,len,cap,rfl,by unfold maxLen at hm;omega,fun i hi=>?_⟩;have hc:=hcell i (by omega);obtain⟨b,o,spot⟩:=a
  have hspot:spot=none:=by
   have h0:=hcell 0 (by omega)
   simpa [Addr.add] using World.cell?_spot h0
  subst hspot;rw[addr_add] at hc;obtain⟨z,hz2⟩:∃z,z=zs.getD i 0:=⟨_,rfl⟩
  have hw:=hwz z (by
   have:zs.getD i 0=zs[i]'(by omega):=by simp [show i<zs.length by omega]
   rw[hz2,this];exact List.getElem_mem _)
  rw[←hz2] at hc;refine⟨b,o,z,rfl,hc,?_⟩;have hw:IntKind.u8.min≤z∧z≤IntKind.u8.max:=by simpa [Lit.wf] using hw
  have e1:IntKind.u8.min=0:=by decide
  have e2:IntKind.u8.max=255:=by decide
  omega
end Go.Proofs.YtnegjhddmfiefaaGreatDoor
