/-
  The model: MatLossless, one letter a value.
-/
import Derived.Test.YtiibnncanpohjaaDoorBLet
import Derived.Test.YtiibnncanpohjaaDoorSpecM3
namespace Go.Proofs.YtiibnncanpohjaaDoor
open Go.ChangeShapes Go.WideShapes Go.ChangeAt Go.RowKit
set_option linter.unusedVariables false

theorem specLos_T (x : F4) (w : World)  : Calls Tryd.prog 18 #[.agg #[.int .i64 x.1.1, .int .i64 x.1.2.1, .int .i64 x.1.2.2, .int .i64 x.2.1.1, .int .i64 x.2.1.2.1, .int .i64 x.2.1.2.2, .int .i64 x.2.2.1.1, .int .i64 x.2.2.1.2.1, .int .i64 x.2.2.1.2.2, .int .i64 x.2.2.2.1, .int .i64 x.2.2.2.2.1, .int .i64 x.2.2.2.2.2]] w fun e w' => e = .returned (.bool (losM x)) ∧ Below w.heap.size w w' := by
  obtain ⟨⟨x1, x2, x3⟩, ⟨x4, x5, x6⟩, ⟨x7, x8, x9⟩, x10, x11, x12⟩ := x
  exact specLos_any x1 x2 x3 x4 x5 x6 x7 x8 x9 x10 x11 x12 w
end Go.Proofs.YtiibnncanpohjaaDoor
