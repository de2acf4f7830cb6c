/-
  The program's vectors, one letter a value.
-/
import Derived.Test.YtkdkeacfifjjoaaGreatDoorBLet
import Derived.Test.YtkdkeacfifjjoaaGreatDoorBMath
import Derived.Test.YtkdkeacfifjjoaaGreatDoorBVec
namespace Go.Proofs.YtkdkeacfifjjoaaGreatDoor
open Go.ChangeShapes Go.WideShapes Go.ChangeAt Go.RowKit
set_option linter.unusedVariables false

theorem implJPower_T (v : F3 × F3) (w : World) (hv : i64J v) (hl : Laid w) : Calls Tryz.prog 16 #[.agg #[.int .i64 v.1.1, .int .i64 v.1.2.1, .int .i64 v.1.2.2, .int .i64 v.2.1, .int .i64 v.2.2.1, .int .i64 v.2.2.2]] w (Gave (pT v.1 v.2) w) := by
  obtain ⟨⟨v1, v2, v3⟩, v4, v5, v6⟩ := v
  obtain ⟨⟨hv1, hv2, hv3⟩, hv4, hv5, hv6⟩ := hv
  exact implJPower_any v1 v2 v3 v4 v5 v6 hv1 hv2 hv3 hv4 hv5 hv6 w hl
end Go.Proofs.YtkdkeacfifjjoaaGreatDoor
