import Derived.Test.YtddkhnclmeikfaaGreatCa3
import Derived.Test.YtddkhnclmeikfaaGreatFb7
set_option maxRecDepth 100000
namespace Go.Proofs.YtddkhnclmeikfaaGreat
open Go.RowKit
attribute [local go_sem ↓] Go.wp_at_zero Go.wp_at_succ
theorem wAnswers_same(xs:List Int)(v v':Value)(w:World)(h:SlM w v xs)(h':SlM w v' xs):
  Calls Tryz.prog 19 #[v,v'] w fun e w'=>e=.returned (.bool true)∧Ext w w':=by
 obtain⟨ad,cap,rfl,hl,hx⟩:=h;obtain⟨ad',cap',rfl,_,hx'⟩:=h';have HX:=hide hx;have HY:=hide hx';clear hx hx';go_enter Tryz.func19,Tryz.ntmps19;go_wp2_with fail;go_loopw [5,13] (fun _i i wr=>∃k:Nat,k≤xs.length∧i=.int .i64 k∧Ext w wr) (fun _ i _=>xs.length-(intOf i).toNat)
 case atStart=>exact⟨0,Nat.zero_le _,rfl,Ext.refl _⟩
 case round=>
  obtain⟨k,hk,rfl,hbl⟩:=hrel;by_cases hlt:k<xs.length
  ·obtain⟨b,o,rfl,p0,p1⟩:=unhide HX k hlt;obtain⟨b',o',rfl,q0,q1⟩:=unhide HY k hlt;have e0:=hbl.keep p0;have g0:=hbl.keep q0;have e1:=hbl.keep p1;have g1:=hbl.keep q1;clear p0 q0 p1 q1;have hb:b<wr.heap.size:=cell_lt e0;have hb':b'<wr.heap.size:=cell_lt g0;have hk0:(0:Int)≤(k:Int):=by omega
   have hk1:(k:Int)<(xs.length:Int):=by omega
   obtain⟨y,hy⟩:∃y,y=xs[k]:=⟨_,rfl⟩;rw[←hy] at e1 g1;clear hy;go_wp2_with fail
   go_region
   go_wp2_with fail;go_roundw
   ·exact⟨k+1,by omega,by go_num,hbl.drew⟩
   ·simp [intOf];omega
  ·go_wp2_with fail;go_ret;exact⟨rfl,hbl⟩
end Go.Proofs.YtddkhnclmeikfaaGreat
