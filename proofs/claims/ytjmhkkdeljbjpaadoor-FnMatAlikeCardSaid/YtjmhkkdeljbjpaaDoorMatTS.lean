/-
  The model's matrices, one letter a value.
-/
import Derived.Test.YtjmhkkdeljbjpaaDoorBLet
import Derived.Test.YtjmhkkdeljbjpaaDoorSpecM2
namespace Go.Proofs.YtjmhkkdeljbjpaaDoor
open Go.ChangeShapes Go.WideShapes Go.ChangeAt Go.RowKit
set_option linter.unusedVariables false

theorem specMScale_T (x : F4) (c : F3) (w : World)  : Calls Tryd.prog 21 #[.agg #[.int .i64 x.1.1, .int .i64 x.1.2.1, .int .i64 x.1.2.2, .int .i64 x.2.1.1, .int .i64 x.2.1.2.1, .int .i64 x.2.1.2.2, .int .i64 x.2.2.1.1, .int .i64 x.2.2.1.2.1, .int .i64 x.2.2.1.2.2, .int .i64 x.2.2.2.1, .int .i64 x.2.2.2.2.1, .int .i64 x.2.2.2.2.2], .agg #[.int .i64 c.1, .int .i64 c.2.1, .int .i64 c.2.2]] w (Gave12 (sclM x c) w) := by
  obtain ⟨⟨x1, x2, x3⟩, ⟨x4, x5, x6⟩, ⟨x7, x8, x9⟩, x10, x11, x12⟩ := x
  obtain ⟨c1, c2, c3⟩ := c
  exact specMScale_any x1 x2 x3 x4 x5 x6 x7 x8 x9 x10 x11 x12 c1 c2 c3 w
end Go.Proofs.YtjmhkkdeljbjpaaDoor
