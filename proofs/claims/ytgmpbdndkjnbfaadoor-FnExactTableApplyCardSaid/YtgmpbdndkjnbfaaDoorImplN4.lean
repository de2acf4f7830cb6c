/-
  The program's four numbers: the squares of polarisation.
-/
import Derived.Test.YtgmpbdndkjnbfaaDoorImplN2
import Derived.Test.YtgmpbdndkjnbfaaDoorEqVec
import Derived.Test.YtgmpbdndkjnbfaaDoorBSpecF
namespace Go.Proofs.YtgmpbdndkjnbfaaDoor
open Go.ChangeShapes Go.WideShapes Go.ChangeAt Go.RowKit
set_option linter.unusedVariables false

theorem power0 (x z : Int) : powerF x 0 z = timesF x 0 z x 0 z := by
  unfold powerF
  split
  · rfl
  · rename_i h
    unfold timesF
    rw [if_neg (by simp only [Bool.and_eq_true]; exact fun k => h k.1)]
theorem sign_zero (n : Int) : signI (n - 0) = signI n := by rw [Int.sub_zero]
theorem msign_any (x y z : Int) (w : World) : Calls Tryd.prog 50 #[.agg #[.int .i64 x, .int .i64 y, .int .i64 z]] w fun e w' => e = .returned (.int .i64 (signI x)) ∧ Below w.heap.size w w' := by
  have C := Lib.hid fun w => cmp_any x 0 w
  rw [sign_zero] at C
  go_enter Tryd.func50, Tryd.ntmps50
  go_wp2_with fail
  refine (C.out _).mono ?_
  rintro e w1 ⟨rfl, rfl⟩
  go_wp2_with fail
  go_ret
  refine ⟨rfl, ?_⟩
  show Acc w _
  (repeat' (first | (with_reducible first | assumption | exact Acc.refl _ | refine Acc.drew ?_ | refine Acc.drewN ?_ _ | refine Acc.alloc ?_ _ | refine Acc.setCell ?_ ?_ _ | refine Acc.mapPut ?_ ?_ _ _) | (refine leB ?_; omega)))
end Go.Proofs.YtgmpbdndkjnbfaaDoor
