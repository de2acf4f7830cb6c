/-
  The model: fractions turned over, quotients.
-/
import Derived.Test.YtbihlkienhbapabDoorSpecPower
namespace Go.Proofs.YtbihlkienhbapabDoor
open Go.ChangeShapes Go.WideShapes Go.ChangeAt Go.RowKit
set_option linter.unusedVariables false

/-- 1 over a fraction. -/
def turnedF (x y z : Int) : Option (Int × Int × Int) :=
  if x * x + y * y = 0 then none else lowF (x * (z / (Int.gcd (x * x + y * y) z : Int))) (-(y * (z / (Int.gcd (x * x + y * y) z : Int)))) ((x * x + y * y) / (Int.gcd (x * x + y * y) z : Int))

theorem sq_bd {x : Int} (h : -2000000000 ≤ x ∧ x ≤ 2000000000) : 0 ≤ x * x ∧ x * x ≤ 4000000000000000000 := by
  have m := mul_bd (a := x) (b := x) (m := 2000000000) (n := 2000000000) (by omega) (by omega) (by omega) (by omega)
  have : 0 ≤ x * x := by
    rcases Int.le_total 0 x with h | h
    · exact Int.mul_nonneg h h
    · exact Int.mul_nonneg_of_nonpos_of_nonpos h h
  omega
theorem sq_pos {x : Int} (h : x ≠ 0) : 0 < x * x := by
  rcases Int.lt_or_gt_of_ne h with h | h
  · exact Int.mul_pos_of_neg_of_neg h h
  · exact Int.mul_pos h h
theorem over_pos {v d : Int} (h1 : 0 < v) (h2 : v ≤ 2000000000) (h3 : d ≤ 2000000000) : d ≤ 4000000000000000000 / v := by
  have : 2000000000 ≤ 4000000000000000000 / v := (Int.le_ediv_iff_mul_le h1).2 (by omega)
  omega
theorem over_neg {v d : Int} (h1 : -2000000000 ≤ v) (h2 : v < 0) (h3 : d ≤ 2000000000) : d ≤ RowKit.wrap64 (-Int.tdiv 4000000000000000000 v) ∧ d ≤ -(4000000000000000000 / v) := by
  obtain ⟨u, rfl⟩ : ∃ u, v = -u := ⟨-v, by omega⟩
  have h := over_pos (v := u) (by omega) (by omega) h3
  have h4 : 4000000000000000000 / u ≤ 4000000000000000000 := Int.ediv_le_self _ (by omega)
  have h5 : 0 ≤ 4000000000000000000 / u := Int.ediv_nonneg (by omega) (by omega)
  rw [Int.tdiv_neg, Int.neg_neg, Int.tdiv_eq_ediv_of_nonneg (by omega), Int.ediv_neg, Int.neg_neg]
  refine ⟨?_, h⟩
  unfold RowKit.wrap64
  omega
theorem big_quo {m d : Int} (h1 : 0 < m) (h2 : m ≤ 2000000000) (h3 : d ≤ 2000000000) : decide (4000000000000000000 / m < d) = false := by
  have : 2000000000 ≤ 4000000000000000000 / m := (Int.le_ediv_iff_mul_le h1).2 (by omega)
  simp only [decide_eq_false_iff_not]
  omega

end Go.Proofs.YtbihlkienhbapabDoor
