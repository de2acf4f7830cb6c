/-
  The program's vectors, one letter a value.
-/
import Derived.Test.YtiibnncanpohjaaGreatDoorBLet
import Derived.Test.YtiibnncanpohjaaGreatDoorBMath
import Derived.Test.YtiibnncanpohjaaGreatDoorBVec
namespace Go.Proofs.YtiibnncanpohjaaGreatDoor
open Go.ChangeShapes Go.WideShapes Go.ChangeAt Go.RowKit
set_option linter.unusedVariables false

theorem implJPower_T (v : F3 × F3) (w : World) (hv : i64J v) (hl : Laid w) : Calls Tryz.prog 7 #[.agg #[.int .i64 v.1.1, .int .i64 v.1.2.1, .int .i64 v.1.2.2, .int .i64 v.2.1, .int .i64 v.2.2.1, .int .i64 v.2.2.2]] w (Gave (pT v.1 v.2) w) := by
  obtain ⟨⟨v1, v2, v3⟩, v4, v5, v6⟩ := v
  obtain ⟨⟨hv1, hv2, hv3⟩, hv4, hv5, hv6⟩ := hv
  exact implJPower_any v1 v2 v3 v4 v5 v6 hv1 hv2 hv3 hv4 hv5 hv6 w hl
theorem implJInner_T (v : F3 × F3) (y : F3 × F3) (w : World) (hv : i64J v) (hy : i64J y) (hl : Laid w) : Calls Tryz.prog 9 #[.agg #[.int .i64 v.1.1, .int .i64 v.1.2.1, .int .i64 v.1.2.2, .int .i64 v.2.1, .int .i64 v.2.2.1, .int .i64 v.2.2.2], .agg #[.int .i64 y.1.1, .int .i64 y.1.2.1, .int .i64 y.1.2.2, .int .i64 y.2.1, .int .i64 y.2.2.1, .int .i64 y.2.2.2]] w (Gave (nT v.1 v.2 y.1 y.2) w) := by
  obtain ⟨⟨v1, v2, v3⟩, v4, v5, v6⟩ := v
  obtain ⟨⟨hv1, hv2, hv3⟩, hv4, hv5, hv6⟩ := hv
  obtain ⟨⟨y1, y2, y3⟩, y4, y5, y6⟩ := y
  obtain ⟨⟨hy1, hy2, hy3⟩, hy4, hy5, hy6⟩ := hy
  exact implJInner_any v1 v2 v3 v4 v5 v6 y1 y2 y3 y4 y5 y6 hv1 hv2 hv3 hv4 hv5 hv6 hy1 hy2 hy3 hy4 hy5 hy6 w hl
end Go.Proofs.YtiibnncanpohjaaGreatDoor
