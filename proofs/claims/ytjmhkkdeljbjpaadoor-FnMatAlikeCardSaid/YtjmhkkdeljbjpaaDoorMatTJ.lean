/-
  The program's vectors, one letter a value.
-/
import Derived.Test.YtjmhkkdeljbjpaaDoorBLet
import Derived.Test.YtjmhkkdeljbjpaaDoorBMath
import Derived.Test.YtjmhkkdeljbjpaaDoorBVec
namespace Go.Proofs.YtjmhkkdeljbjpaaDoor
open Go.ChangeShapes Go.WideShapes Go.ChangeAt Go.RowKit
set_option linter.unusedVariables false

theorem implJAlike_T (v : F3 × F3) (y : F3 × F3) (w : World) (hv : i64J v) (hy : i64J y) (hl : Laid w) : Calls Tryd.prog 11 #[.agg #[.int .i64 v.1.1, .int .i64 v.1.2.1, .int .i64 v.1.2.2, .int .i64 v.2.1, .int .i64 v.2.2.1, .int .i64 v.2.2.2], .agg #[.int .i64 y.1.1, .int .i64 y.1.2.1, .int .i64 y.1.2.2, .int .i64 y.2.1, .int .i64 y.2.2.1, .int .i64 y.2.2.2]] w fun e w' => e = .returned (.bool (alikeF v.1.1 v.1.2.1 v.1.2.2 v.2.1 v.2.2.1 v.2.2.2 y.1.1 y.1.2.1 y.1.2.2 y.2.1 y.2.2.1 y.2.2.2)) ∧ Below w.heap.size w w' := by
  obtain ⟨⟨v1, v2, v3⟩, v4, v5, v6⟩ := v
  obtain ⟨⟨hv1, hv2, hv3⟩, hv4, hv5, hv6⟩ := hv
  obtain ⟨⟨y1, y2, y3⟩, y4, y5, y6⟩ := y
  obtain ⟨⟨hy1, hy2, hy3⟩, hy4, hy5, hy6⟩ := hy
  exact implJAlike_any v1 v2 v3 v4 v5 v6 y1 y2 y3 y4 y5 y6 hv1 hv2 hv3 hv4 hv5 hv6 hy1 hy2 hy3 hy4 hy5 hy6 w hl
end Go.Proofs.YtjmhkkdeljbjpaaDoor
