/-
  The program's fractions: asked whether they are 0; their real parts.
-/
import Derived.Test.YtkdkeacfifjjoabDoorEqVec
import Derived.Test.YtkdkeacfifjjoabDoorBSpecF
import Derived.Test.YtkdkeacfifjjoabDoorBImplF
namespace Go.Proofs.YtkdkeacfifjjoabDoor
open Go.ChangeShapes Go.WideShapes Go.ChangeAt Go.RowKit
set_option linter.unusedVariables false

set_option linter.unusedVariables false

set_option maxHeartbeats 1000000 in
theorem isZ_of (x y z : Int) (k : Bool) (h : (x == 0 && y == 0 && z == 1) = k) (w : World) : Calls Tryd.prog 49 #[.agg #[.int .i64 x, .int .i64 y, .int .i64 z]] w fun e w' => e = .returned (.bool k) ∧ Below w.heap.size w w' := by
  have E := Lib.hid fun w => (eqFr 9998 x y z 0 0 1 w).trans (by rw [h])
  clear h
  have q := E.out
  go_enter Tryd.func49, Tryd.ntmps49
  go_wp2_with fail
  go_ret
  refine ⟨rfl, ?_⟩
  show Acc w _
  (repeat' (first | (with_reducible first | assumption | exact Acc.refl _ | refine Acc.drew ?_ | refine Acc.drewN ?_ _ | refine Acc.alloc ?_ _ | refine Acc.setCell ?_ ?_ _) | (refine leB ?_; omega)))
end Go.Proofs.YtkdkeacfifjjoabDoor
