import Derived.Test.YtnegjhddmfiefaaGreatDoorHx
namespace Go.Proofs.YtnegjhddmfiefaaGreatDoor
open Go.RowKit
attribute [local go_sem ↓] Go.wp_at_zero Go.wp_at_succ
theorem units_take(cs:List Cl)(k:Nat)(h:k<cs.length):units (cs.take (k+1))=units (cs.take k)+unitsOf cs[k]:=by
 unfold units;rw[List.take_succ_eq_append_getElem h];simp only [List.map_append,List.sum_append,List.map_cons,List.map_nil,List.sum_cons,List.sum_nil,Nat.add_zero]
end Go.Proofs.YtnegjhddmfiefaaGreatDoor
