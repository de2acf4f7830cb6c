/-
  The program: MatLossless, one letter a value.
-/
import Derived.Test.YtkdkeacfifjjoaaGreatDoorBLet
import Derived.Test.YtkdkeacfifjjoaaGreatDoorImplM4
namespace Go.Proofs.YtkdkeacfifjjoaaGreatDoor
open Go.ChangeShapes Go.WideShapes Go.ChangeAt Go.RowKit
set_option linter.unusedVariables false

theorem implLos_T (x : F4) (w : World) (hx : i64M x) (hl : Laid w) : Calls Tryz.prog 12 #[.agg #[.int .i64 x.1.1, .int .i64 x.1.2.1, .int .i64 x.1.2.2, .int .i64 x.2.1.1, .int .i64 x.2.1.2.1, .int .i64 x.2.1.2.2, .int .i64 x.2.2.1.1, .int .i64 x.2.2.1.2.1, .int .i64 x.2.2.1.2.2, .int .i64 x.2.2.2.1, .int .i64 x.2.2.2.2.1, .int .i64 x.2.2.2.2.2]] w fun e w' => e = .returned (.bool (losM x)) ∧ Below w.heap.size w w' := by
  obtain ⟨⟨x1, x2, x3⟩, ⟨x4, x5, x6⟩, ⟨x7, x8, x9⟩, x10, x11, x12⟩ := x
  obtain ⟨⟨hx1, hx2, hx3⟩, ⟨hx4, hx5, hx6⟩, ⟨hx7, hx8, hx9⟩, hx10, hx11, hx12⟩ := hx
  exact implLos_any x1 x2 x3 x4 x5 x6 x7 x8 x9 x10 x11 x12 hx1 hx2 hx3 hx4 hx5 hx6 hx7 hx8 hx9 hx10 hx11 hx12 w hl
end Go.Proofs.YtkdkeacfifjjoaaGreatDoor
