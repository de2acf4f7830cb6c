/-
  The program's four numbers: the squares of polarisation.
-/
import Derived.Test.YtdagcjohpmolpaaDoorImplN2
import Derived.Test.YtdagcjohpmolpaaDoorEqVec
import Derived.Test.YtdagcjohpmolpaaDoorBSpecF
namespace Go.Proofs.YtdagcjohpmolpaaDoor
open Go.ChangeShapes Go.WideShapes Go.ChangeAt Go.RowKit
set_option linter.unusedVariables false

theorem power0 (x z : Int) : powerF x 0 z = timesF x 0 z x 0 z := by
  unfold powerF
  split
  · rfl
  · rename_i h
    unfold timesF
    rw [if_neg (by simp only [Bool.and_eq_true]; exact fun k => h k.1)]
theorem sign_zero (n : Int) : signI (n - 0) = signI n := by rw [Int.sub_zero]
theorem misZero_of (x y z : Int) (k : Bool) (h : (x == 0 && y == 0 && z == 1) = k) (w : World) : Calls Tryd.prog 87 #[.agg #[.int .i64 x, .int .i64 y, .int .i64 z]] w fun e w' => e = .returned (.bool k) ∧ Below w.heap.size w w' := by
  have E := Lib.hid fun w => (eqFr 9998 x y z 0 0 1 w).trans (by rw [h])
  clear h
  have q := E.out
  go_enter Tryd.func87, Tryd.ntmps87
  go_wp2_with fail
  go_ret
  refine ⟨rfl, ?_⟩
  show Acc w _
  (repeat' (first | (with_reducible first | assumption | exact Acc.refl _ | refine Acc.drew ?_ | refine Acc.drewN ?_ _ | refine Acc.alloc ?_ _ | refine Acc.setCell ?_ ?_ _ | refine Acc.mapPut ?_ ?_ _ _) | (refine leB ?_; omega)))
end Go.Proofs.YtdagcjohpmolpaaDoor
