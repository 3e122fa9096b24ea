import Derived.Test.YtddkhnclmeikfacGreatDoorKa0
import Derived.Test.YtddkhnclmeikfacGreatDoorFl0
namespace Go.Proofs.YtddkhnclmeikfacGreatDoor
open Go.RowKit

/-! Rows of acts that a call owns. -/
def fA (y : Ak) : List Value := [iv y.op, iv y.a, iv y.b, iv y.c, iv y.n]
theorem ownA {w : World} {base : Nat} {v : Value} {L : List Ak} (h : w.ownsRow base 40 5 v L.length (L.flatMap fA)) (hl : L.length ≤ 1048576) : SlA w v L := by
  obtain ⟨ad, cap, e, _, hx⟩ := own_cells (f := fA) (fun _ => rfl) h
  refine ⟨ad, cap, e, by omega, fun i hi => ?_⟩
  obtain ⟨g, ea, _, _, hc⟩ := hx i hi
  exact ⟨g, 0, ea, by have := hc 0 (by omega); simpa [fA] using this, by have := hc 1 (by omega); simpa [fA] using this, by have := hc 2 (by omega); simpa [fA] using this, by have := hc 3 (by omega); simpa [fA] using this, by have := hc 4 (by omega); simpa [fA] using this⟩
theorem ownsA_ext {w w' : World} {B : Nat} {v : Value} {n : Nat} {l : List Value} (h : Hid (w.ownsRow B 40 5 v n l)) (e : Ext w w') : Hid (w'.ownsRow B 40 5 v n l) := ownsRow_of_block h (fun q hq => e.block q ((unhide h).lt q hq).2)
end Go.Proofs.YtddkhnclmeikfacGreatDoor
