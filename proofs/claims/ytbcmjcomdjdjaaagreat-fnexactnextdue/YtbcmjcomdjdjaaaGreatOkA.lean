import Derived.Test.YtbcmjcomdjdjaaaGreatRule
namespace Go.Proofs.YtbcmjcomdjdjaaaGreat
open Go.RowKit

theorem OkIs.all {x : Hp} (h : OkIs x 0) : R1 x ∧ R2 x ∧ R3 x ∧ R4 x := by
  unfold OkIs at h
  rcases h with h | h | h | h | h | h | h | h | h
  · omega
  · omega
  · omega
  · omega
  · omega
  · omega
  · omega
  · omega
  · exact ⟨h.1, h.2.1, h.2.2.1, h.2.2.2.1⟩
theorem OkIs.n8 {x : Hp} (h : OkIs x 0) : x.cells.length ≤ 8000 := by have := h.all.1.room; have := h.all.1.cells; omega
theorem OkIs.p200 {x : Hp} (h : OkIs x 0) (i : Nat) (hi : i < x.cells.length) : (x.c i).prs.length ≤ 200 := by
  rcases h.all.2.1.1 i hi with c | c | c
  · have := c.2.1.2.2.2.2.2; omega
  · have := c.2.1.2.2.2.2.2; omega
  · exact c.2.2.2.2.2.2.2
end Go.Proofs.YtbcmjcomdjdjaaaGreat
