/-
  The program's matrices, one letter a value.
-/
import Derived.Test.YtkdkeacfifjjoaaGreatDoorBLet
import Derived.Test.YtkdkeacfifjjoaaGreatDoorImplM3
import Derived.Test.YtkdkeacfifjjoaaGreatDoorBImplF
namespace Go.Proofs.YtkdkeacfifjjoaaGreatDoor
open Go.ChangeShapes Go.WideShapes Go.ChangeAt Go.RowKit
set_option linter.unusedVariables false

theorem implMTimes_T (x : F4) (y : F4) (w : World) (hx : i64M x) (hy : i64M y) (hl : Laid w) : Calls Tryz.prog 9 #[.agg #[.int .i64 x.1.1, .int .i64 x.1.2.1, .int .i64 x.1.2.2, .int .i64 x.2.1.1, .int .i64 x.2.1.2.1, .int .i64 x.2.1.2.2, .int .i64 x.2.2.1.1, .int .i64 x.2.2.1.2.1, .int .i64 x.2.2.1.2.2, .int .i64 x.2.2.2.1, .int .i64 x.2.2.2.2.1, .int .i64 x.2.2.2.2.2], .agg #[.int .i64 y.1.1, .int .i64 y.1.2.1, .int .i64 y.1.2.2, .int .i64 y.2.1.1, .int .i64 y.2.1.2.1, .int .i64 y.2.1.2.2, .int .i64 y.2.2.1.1, .int .i64 y.2.2.1.2.1, .int .i64 y.2.2.1.2.2, .int .i64 y.2.2.2.1, .int .i64 y.2.2.2.2.1, .int .i64 y.2.2.2.2.2]] w (Gave12 (mulM x y) w) := by
  obtain ⟨⟨x1, x2, x3⟩, ⟨x4, x5, x6⟩, ⟨x7, x8, x9⟩, x10, x11, x12⟩ := x
  obtain ⟨⟨hx1, hx2, hx3⟩, ⟨hx4, hx5, hx6⟩, ⟨hx7, hx8, hx9⟩, hx10, hx11, hx12⟩ := hx
  obtain ⟨⟨y1, y2, y3⟩, ⟨y4, y5, y6⟩, ⟨y7, y8, y9⟩, y10, y11, y12⟩ := y
  obtain ⟨⟨hy1, hy2, hy3⟩, ⟨hy4, hy5, hy6⟩, ⟨hy7, hy8, hy9⟩, hy10, hy11, hy12⟩ := hy
  exact implMTimes_any x1 x2 x3 x4 x5 x6 x7 x8 x9 x10 x11 x12 y1 y2 y3 y4 y5 y6 y7 y8 y9 y10 y11 y12 hx1 hx2 hx3 hx4 hx5 hx6 hx7 hx8 hx9 hx10 hx11 hx12 hy1 hy2 hy3 hy4 hy5 hy6 hy7 hy8 hy9 hy10 hy11 hy12 w hl
theorem implMAdj_T (x : F4) (w : World) (hx : i64M x) (hl : Laid w) : Calls Tryz.prog 8 #[.agg #[.int .i64 x.1.1, .int .i64 x.1.2.1, .int .i64 x.1.2.2, .int .i64 x.2.1.1, .int .i64 x.2.1.2.1, .int .i64 x.2.1.2.2, .int .i64 x.2.2.1.1, .int .i64 x.2.2.1.2.1, .int .i64 x.2.2.1.2.2, .int .i64 x.2.2.2.1, .int .i64 x.2.2.2.2.1, .int .i64 x.2.2.2.2.2]] w (Gave12 (adjM x) w) := by
  obtain ⟨⟨x1, x2, x3⟩, ⟨x4, x5, x6⟩, ⟨x7, x8, x9⟩, x10, x11, x12⟩ := x
  obtain ⟨⟨hx1, hx2, hx3⟩, ⟨hx4, hx5, hx6⟩, ⟨hx7, hx8, hx9⟩, hx10, hx11, hx12⟩ := hx
  exact implMAdj_any x1 x2 x3 x4 x5 x6 x7 x8 x9 x10 x11 x12 hx1 hx2 hx3 hx4 hx5 hx6 hx7 hx8 hx9 hx10 hx11 hx12 w hl
end Go.Proofs.YtkdkeacfifjjoaaGreatDoor
