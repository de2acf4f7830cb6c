/-
  The program's matrices, one letter a value.
-/
import Derived.Test.YtkdkeacfifjjoabGreatDoorBLet
import Derived.Test.YtkdkeacfifjjoabGreatDoorImplM3
import Derived.Test.YtkdkeacfifjjoabGreatDoorBImplF
namespace Go.Proofs.YtkdkeacfifjjoabGreatDoor
open Go.ChangeShapes Go.WideShapes Go.ChangeAt Go.RowKit
set_option linter.unusedVariables false

theorem implTimes_T (u : F3) (v : F3) (w : World) (hu : i64T u) (hv : i64T v) (hl : Laid w) : Calls Tryz.prog 11 #[.agg #[.int .i64 u.1, .int .i64 u.2.1, .int .i64 u.2.2], .agg #[.int .i64 v.1, .int .i64 v.2.1, .int .i64 v.2.2]] w (Gave (tT u v) w) := by
  obtain ⟨u1, u2, u3⟩ := u
  obtain ⟨hu1, hu2, hu3⟩ := hu
  obtain ⟨v1, v2, v3⟩ := v
  obtain ⟨hv1, hv2, hv3⟩ := hv
  exact implTimes_any u1 u2 u3 v1 v2 v3 hu1 hu2 hu3 hv1 hv2 hv3 w hl
end Go.Proofs.YtkdkeacfifjjoabGreatDoor
