import Derived.Test.YtddkhnclmeikfaaGreatTa
import Derived.Test.YtddkhnclmeikfaaGreatJk
namespace Go.Proofs.YtddkhnclmeikfaaGreat
open Go.RowKit
theorem ways_3(p:Inhabited ProtD){C B b:Nat}{x:Hp}{a q c:Nat}{n:Int}{v:World}(s:Snd x)(ha:(a:Int)≤actA 3)(hv:v.heap.size≤B):WaysOk p C B b x a q c n 3 v:=fun _ _ _ _ _ _ p2 bd W g zd _ xv=>@way_3 p2 C B W b bd x a q c n _ g s zd (by have:(a:Int)≤15:=ha;omega) v hv xv
theorem ways_6(p:Inhabited ProtD){C B b:Nat}{x:Hp}{a q c:Nat}{n:Int}{v:World}(s:Snd x)(ha:(a:Int)≤actA 6)(hq:(q:Int)≤actB 6)(hv:v.heap.size≤B):WaysOk p C B b x a q c n 6 v:=fun _ _ _ _ _ _ p2 bd W g zd _ xv=>@way_6 p2 C B W b bd x a q c n _ g s zd (by have:(a:Int)≤15:=ha;omega) (by have:(q:Int)≤15:=hq;omega) v hv xv
theorem ways_8(p:Inhabited ProtD){C B b:Nat}{x:Hp}{a q c:Nat}{n:Int}{v:World}(s:Snd x)(ha:(a:Int)≤actA 8)(hq:(q:Int)≤actB 8)(hv:v.heap.size≤B):WaysOk p C B b x a q c n 8 v:=fun _ _ _ _ _ _ p2 bd W g zd _ xv=>@way_8 p2 C B W b bd x a q c n _ g s zd (by have:(a:Int)≤15:=ha;omega) (by have:(q:Int)≤15:=hq;omega) v hv xv
theorem ways_23(p:Inhabited ProtD){C B b:Nat}{x:Hp}{a q c:Nat}{n:Int}{v:World}(hv:v.heap.size≤B):WaysOk p C B b x a q c n 23 v:=fun _ _ _ _ _ _ p2 bd W g zd _ xv=>@way_23 p2 C B W b bd x a q c n _ g zd v hv xv
end Go.Proofs.YtddkhnclmeikfaaGreat
