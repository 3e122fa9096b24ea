import Derived.Test.YtkabcfhemljnbabRd0
import Derived.Test.YtkabcfhemljnbabKa
namespace Go.Proofs.Ytkabcfhemljnbab
open Go.RowKit Go.Deep

/-! A row of acts that is read. -/
section
variable {H : Type} {enc : TypeId × Value → H} {w : World} {base : Nat} {spare : Nat → Bool} {held : Bool}

theorem cellsA : Try.prog.cellsOf 33 = 5 := by kernel_rfl
theorem bytesA : Try.prog.bytesOf 33 = 40 := by kernel_rfl
theorem rd_act {fuel : Nat} {cs : List Value} {x : DataW H × List MemPlace} (h : DataW.trod enc Try.prog w base spare held fuel 33 cs = some x) : ∃ y : Ak, cs = [iv y.op, iv y.a, iv y.b, iv y.c, iv y.n] := by
  obtain ⟨xs, n, _, _, hl, hs, hf⟩ := DataW.trod_struct Try.underlying33 h
  rw [cellsA] at hl
  obtain ⟨a, b, c, d, e, rfl⟩ := len5 hl
  obtain ⟨_, f0, _⟩ := rd_field hs hf 0 3 0 1 rfl cells3
  obtain ⟨_, f1, _⟩ := rd_field hs hf 1 3 1 1 rfl cells3
  obtain ⟨_, f2, _⟩ := rd_field hs hf 2 3 2 1 rfl cells3
  obtain ⟨_, f3, _⟩ := rd_field hs hf 3 3 3 1 rfl cells3
  obtain ⟨_, f4, _⟩ := rd_field hs hf 4 2 4 1 rfl cells2
  obtain ⟨k0, e0⟩ := rd_int f0
  obtain ⟨k1, e1⟩ := rd_int f1
  obtain ⟨k2, e2⟩ := rd_int f2
  obtain ⟨k3, e3⟩ := rd_int f3
  obtain ⟨k4, e4⟩ := rd_int64 f4
  simp at e0 e1 e2 e3 e4
  exact ⟨⟨k0, k1, k2, k3, k4⟩, by rw [e0, e1, e2, e3, e4]⟩
theorem rd_acts {fuel : Nat} {cs : List Value} {x : DataW H × List MemPlace} (h : DataW.trod enc Try.prog w base (fun _ => true) held fuel 22 cs = some x) (hw : ∀ n ∈ x.1.weights Try.prog 22, n ≤ reachBytes) : ∃ (v : Value) (xs : List Ak), cs = [v] ∧ SlA w v xs := by
  refine rd_slice (⟨0, 0, 0, 0, 0⟩ : Ak) Try.underlying22 cellsA (by omega) bytesA (by omega) h hw (fun fuel cs y hy _ b o hc => ?_)
  obtain ⟨z, rfl⟩ := rd_act hy
  exact ⟨z, hc 0 (by omega), hc 1 (by omega), hc 2 (by omega), hc 3 (by omega), hc 4 (by omega)⟩
end
end Go.Proofs.Ytkabcfhemljnbab
