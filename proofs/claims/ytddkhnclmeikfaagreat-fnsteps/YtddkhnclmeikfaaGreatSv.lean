import Derived.Test.YtddkhnclmeikfaaGreatQer
namespace Go.Proofs.YtddkhnclmeikfaaGreat
open Go.RowKit
attribute [local go_sem ↓] Go.wp_at_zero Go.wp_at_succ
def SBx(w:World)(B:Nat)(x:Hp)(k:Nat)(vr vc vg:Value):Prop:=dW w B x vr vc vg/\w.cell? ⟨B,13,none⟩=some (iv k)
theorem SBx.ext{w w':World}{B:Nat}{x:Hp}{k:Nat}{vr vc vg:Value}(h:SBx w B x k vr vc vg)(e:Ext w w'):SBx w' B x k vr vc vg:=⟨h.1.ext e,e.keep h.2⟩
abbrev stpC(x:Hp)(k:Nat)(vr vc vg:Value):Array Value:=#[iv x.room,iv x.used,iv x.born,vr,vc,iv x.phase,iv x.hand,iv x.sub,vg,iv x.per,iv x.start,iv x.rounds,iv x.forced,iv k]
theorem SBx.new(w:World)(x:Hp)(k:Nat)(vr vc vg:Value)(t:TypeId):SBx (w.alloc (.cells (stpC x k vr vc vg) t)) w.heap.size x k vr vc vg:=by
 refine⟨⟨?_,?_,?_,?_,?_,?_,?_,?_,?_,?_,?_,?_,?_⟩,?_⟩ <;> simp [go_sem]
end Go.Proofs.YtddkhnclmeikfaaGreat
