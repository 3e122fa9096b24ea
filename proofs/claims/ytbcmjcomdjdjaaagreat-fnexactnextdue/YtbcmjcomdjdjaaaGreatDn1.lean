import Derived.Test.YtbcmjcomdjdjaaaGreatSpecL
import Derived.Test.YtbcmjcomdjdjaaaGreatImpR
import Derived.Test.YtbcmjcomdjdjaaaGreatOkA
namespace Go.Proofs.YtbcmjcomdjdjaaaGreat
open Go.RowKit
attribute [local go_sem ↓] Go.wp_at_zero Go.wp_at_succ

/-- the first k cells: the least of those that are due, or none -/
def DueTo (x : Hp) (k : Nat) (r : Int) : Prop := (r = -1 ∧ ∀ i, i < k → (x.c i).last ≠ 2) ∨ ∃ i : Nat, r = (i : Int) ∧ i < k ∧ (x.c i).last = 2 ∧ ∀ j, j < k → (x.c j).last = 2 → (x.c i).born ≤ (x.c j).born
/-- what NextDue answers -/
def DueIs (x : Hp) (r : Int) : Prop := (OkIs x 0 ∧ DueTo x x.cells.length r) ∨ (¬ OkIs x 0 ∧ r = -1)
theorem born_eq {x : Hp} (r2 : R2 x) {a b : Nat} (ha : a < x.cells.length) (hb : b < x.cells.length) (da : (x.c a).last = 2) (db : (x.c b).last = 2) (e : (x.c a).born = (x.c b).born) : a = b := by
  have sa := speaks_used r2 a ha (.inr da)
  have sb := speaks_used r2 b hb (.inr db)
  have ta : (x.c a).to = 0 := by rcases r2.1 a ha with z | z | z; omega; omega; exact z.2.2.2.2.2.2.1
  have tb : (x.c b).to = 0 := by rcases r2.1 b hb with z | z | z; omega; omega; exact z.2.2.2.2.2.2.1
  rcases Nat.lt_trichotomy a b with q | q | q
  · exact (r2.2 b hb (by omega) a q ⟨by omega, by omega, by omega⟩).elim
  · exact q
  · exact (r2.2 a ha (by omega) b q ⟨by omega, by omega, by omega⟩).elim
theorem DueIs.uniq {x : Hp} {r s : Int} (h : DueIs x r) (k : DueIs x s) : r = s := by
  rcases h with ⟨h, p⟩ | ⟨h, e⟩ <;> rcases k with ⟨k, q⟩ | ⟨k, f⟩
  · rcases p with ⟨p, n⟩ | ⟨i, p, hi, di, mi⟩ <;> rcases q with ⟨q, m⟩ | ⟨j, q, hj, dj, mj⟩
    · omega
    · exact (n j hj dj).elim
    · exact (m i hi di).elim
    · have := mi j hj dj
      have := mj i hi di
      have := born_eq h.all.2.1 hi hj di dj (by omega)
      omega
  · exact (k h).elim
  · exact (h k).elim
  · omega
theorem DueTo.no {x : Hp} {k : Nat} {r : Int} (h : DueTo x k r) (hk : (x.c k).last ≠ 2) : DueTo x (k + 1) r := by
  rcases h with ⟨h, n⟩ | ⟨i, h, hi, di, mi⟩
  · exact .inl ⟨h, fun j hj => by rcases (by omega : j < k ∨ j = k) with q | q; exact n j q; subst q; exact hk⟩
  · exact .inr ⟨i, h, by omega, di, fun j hj dj => by rcases (by omega : j < k ∨ j = k) with q | q; exact mi j q dj; subst q; exact (hk dj).elim⟩
theorem DueTo.first {x : Hp} {k : Nat} (h : DueTo x k (-1)) (hk : (x.c k).last = 2) : DueTo x (k + 1) k := by
  rcases h with ⟨h, n⟩ | ⟨i, h, hi, di, mi⟩
  · exact .inr ⟨k, rfl, by omega, hk, fun j hj dj => by rcases (by omega : j < k ∨ j = k) with q | q; exact (n j q dj).elim; subst q; omega⟩
  · omega
theorem DueTo.less {x : Hp} {k i : Nat} (h : DueTo x k i) (hk : (x.c k).last = 2) (hl : (x.c k).born < (x.c i).born) : DueTo x (k + 1) k := by
  rcases h with ⟨h, n⟩ | ⟨i', h, hi, di, mi⟩
  · omega
  · obtain rfl : i' = i := by omega
    exact .inr ⟨k, rfl, by omega, hk, fun j hj dj => by rcases (by omega : j < k ∨ j = k) with q | q; have := mi j q dj; omega; subst q; omega⟩
theorem DueTo.more {x : Hp} {k i : Nat} (h : DueTo x k i) (hl : (x.c i).born ≤ (x.c k).born) : DueTo x (k + 1) i := by
  rcases h with ⟨h, n⟩ | ⟨i', h, hi, di, mi⟩
  · omega
  · obtain rfl : i' = i := by omega
    exact .inr ⟨i', rfl, by omega, di, fun j hj dj => by rcases (by omega : j < k ∨ j = k) with q | q; exact mi j q dj; subst q; exact hl⟩
theorem DueTo.form {x : Hp} {k : Nat} {r : Int} (h : DueTo x k r) : r = -1 ∨ ∃ i : Nat, r = (i : Int) ∧ i < k := by
  rcases h with ⟨h, _⟩ | ⟨i, h, hi, _⟩
  · exact .inl h
  · exact .inr ⟨i, h, hi⟩
end Go.Proofs.YtbcmjcomdjdjaaaGreat
