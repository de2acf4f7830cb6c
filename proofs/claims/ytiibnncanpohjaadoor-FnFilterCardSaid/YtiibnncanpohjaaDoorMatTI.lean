/-
  The program's matrices, one letter a value.
-/
import Derived.Test.YtiibnncanpohjaaDoorBLet
import Derived.Test.YtiibnncanpohjaaDoorImplM3
import Derived.Test.YtiibnncanpohjaaDoorBImplF
namespace Go.Proofs.YtiibnncanpohjaaDoor
open Go.ChangeShapes Go.WideShapes Go.ChangeAt Go.RowKit
set_option linter.unusedVariables false

theorem implMTimes_T (x : F4) (y : F4) (w : World) (hx : i64M x) (hy : i64M y) (hl : Laid w) : Calls Tryd.prog 15 #[.agg #[.int .i64 x.1.1, .int .i64 x.1.2.1, .int .i64 x.1.2.2, .int .i64 x.2.1.1, .int .i64 x.2.1.2.1, .int .i64 x.2.1.2.2, .int .i64 x.2.2.1.1, .int .i64 x.2.2.1.2.1, .int .i64 x.2.2.1.2.2, .int .i64 x.2.2.2.1, .int .i64 x.2.2.2.2.1, .int .i64 x.2.2.2.2.2], .agg #[.int .i64 y.1.1, .int .i64 y.1.2.1, .int .i64 y.1.2.2, .int .i64 y.2.1.1, .int .i64 y.2.1.2.1, .int .i64 y.2.1.2.2, .int .i64 y.2.2.1.1, .int .i64 y.2.2.1.2.1, .int .i64 y.2.2.1.2.2, .int .i64 y.2.2.2.1, .int .i64 y.2.2.2.2.1, .int .i64 y.2.2.2.2.2]] w (Gave12 (mulM x y) w) := by
  obtain ⟨⟨x1, x2, x3⟩, ⟨x4, x5, x6⟩, ⟨x7, x8, x9⟩, x10, x11, x12⟩ := x
  obtain ⟨⟨hx1, hx2, hx3⟩, ⟨hx4, hx5, hx6⟩, ⟨hx7, hx8, hx9⟩, hx10, hx11, hx12⟩ := hx
  obtain ⟨⟨y1, y2, y3⟩, ⟨y4, y5, y6⟩, ⟨y7, y8, y9⟩, y10, y11, y12⟩ := y
  obtain ⟨⟨hy1, hy2, hy3⟩, ⟨hy4, hy5, hy6⟩, ⟨hy7, hy8, hy9⟩, hy10, hy11, hy12⟩ := hy
  exact implMTimes_any x1 x2 x3 x4 x5 x6 x7 x8 x9 x10 x11 x12 y1 y2 y3 y4 y5 y6 y7 y8 y9 y10 y11 y12 hx1 hx2 hx3 hx4 hx5 hx6 hx7 hx8 hx9 hx10 hx11 hx12 hy1 hy2 hy3 hy4 hy5 hy6 hy7 hy8 hy9 hy10 hy11 hy12 w hl
theorem implMAdj_T (x : F4) (w : World) (hx : i64M x) (hl : Laid w) : Calls Tryd.prog 19 #[.agg #[.int .i64 x.1.1, .int .i64 x.1.2.1, .int .i64 x.1.2.2, .int .i64 x.2.1.1, .int .i64 x.2.1.2.1, .int .i64 x.2.1.2.2, .int .i64 x.2.2.1.1, .int .i64 x.2.2.1.2.1, .int .i64 x.2.2.1.2.2, .int .i64 x.2.2.2.1, .int .i64 x.2.2.2.2.1, .int .i64 x.2.2.2.2.2]] w (Gave12 (adjM x) w) := by
  obtain ⟨⟨x1, x2, x3⟩, ⟨x4, x5, x6⟩, ⟨x7, x8, x9⟩, x10, x11, x12⟩ := x
  obtain ⟨⟨hx1, hx2, hx3⟩, ⟨hx4, hx5, hx6⟩, ⟨hx7, hx8, hx9⟩, hx10, hx11, hx12⟩ := hx
  exact implMAdj_any x1 x2 x3 x4 x5 x6 x7 x8 x9 x10 x11 x12 hx1 hx2 hx3 hx4 hx5 hx6 hx7 hx8 hx9 hx10 hx11 hx12 w hl
theorem implMApply_T (x : F4) (v : F3 × F3) (w : World) (hx : i64M x) (hv : i64J v) (hl : Laid w) : Calls Tryd.prog 23 #[.agg #[.int .i64 x.1.1, .int .i64 x.1.2.1, .int .i64 x.1.2.2, .int .i64 x.2.1.1, .int .i64 x.2.1.2.1, .int .i64 x.2.1.2.2, .int .i64 x.2.2.1.1, .int .i64 x.2.2.1.2.1, .int .i64 x.2.2.1.2.2, .int .i64 x.2.2.2.1, .int .i64 x.2.2.2.2.1, .int .i64 x.2.2.2.2.2], .agg #[.int .i64 v.1.1, .int .i64 v.1.2.1, .int .i64 v.1.2.2, .int .i64 v.2.1, .int .i64 v.2.2.1, .int .i64 v.2.2.2]] w (Gave6 (appM x v) w) := by
  obtain ⟨⟨x1, x2, x3⟩, ⟨x4, x5, x6⟩, ⟨x7, x8, x9⟩, x10, x11, x12⟩ := x
  obtain ⟨⟨hx1, hx2, hx3⟩, ⟨hx4, hx5, hx6⟩, ⟨hx7, hx8, hx9⟩, hx10, hx11, hx12⟩ := hx
  obtain ⟨⟨v1, v2, v3⟩, v4, v5, v6⟩ := v
  obtain ⟨⟨hv1, hv2, hv3⟩, hv4, hv5, hv6⟩ := hv
  exact implMApply_any x1 x2 x3 x4 x5 x6 x7 x8 x9 x10 x11 x12 v1 v2 v3 v4 v5 v6 hx1 hx2 hx3 hx4 hx5 hx6 hx7 hx8 hx9 hx10 hx11 hx12 hv1 hv2 hv3 hv4 hv5 hv6 w hl
theorem implMDet_T (x : F4) (w : World) (hx : i64M x) (hl : Laid w) : Calls Tryd.prog 28 #[.agg #[.int .i64 x.1.1, .int .i64 x.1.2.1, .int .i64 x.1.2.2, .int .i64 x.2.1.1, .int .i64 x.2.1.2.1, .int .i64 x.2.1.2.2, .int .i64 x.2.2.1.1, .int .i64 x.2.2.1.2.1, .int .i64 x.2.2.1.2.2, .int .i64 x.2.2.2.1, .int .i64 x.2.2.2.2.1, .int .i64 x.2.2.2.2.2]] w (Gave (detM x) w) := by
  obtain ⟨⟨x1, x2, x3⟩, ⟨x4, x5, x6⟩, ⟨x7, x8, x9⟩, x10, x11, x12⟩ := x
  obtain ⟨⟨hx1, hx2, hx3⟩, ⟨hx4, hx5, hx6⟩, ⟨hx7, hx8, hx9⟩, hx10, hx11, hx12⟩ := hx
  exact implMDet_any x1 x2 x3 x4 x5 x6 x7 x8 x9 x10 x11 x12 hx1 hx2 hx3 hx4 hx5 hx6 hx7 hx8 hx9 hx10 hx11 hx12 w hl
theorem implMScale_T (x : F4) (c : F3) (w : World) (hx : i64M x) (hc : i64T c) (hl : Laid w) : Calls Tryd.prog 14 #[.agg #[.int .i64 x.1.1, .int .i64 x.1.2.1, .int .i64 x.1.2.2, .int .i64 x.2.1.1, .int .i64 x.2.1.2.1, .int .i64 x.2.1.2.2, .int .i64 x.2.2.1.1, .int .i64 x.2.2.1.2.1, .int .i64 x.2.2.1.2.2, .int .i64 x.2.2.2.1, .int .i64 x.2.2.2.2.1, .int .i64 x.2.2.2.2.2], .agg #[.int .i64 c.1, .int .i64 c.2.1, .int .i64 c.2.2]] w (Gave12 (sclM x c) w) := by
  obtain ⟨⟨x1, x2, x3⟩, ⟨x4, x5, x6⟩, ⟨x7, x8, x9⟩, x10, x11, x12⟩ := x
  obtain ⟨⟨hx1, hx2, hx3⟩, ⟨hx4, hx5, hx6⟩, ⟨hx7, hx8, hx9⟩, hx10, hx11, hx12⟩ := hx
  obtain ⟨c1, c2, c3⟩ := c
  obtain ⟨hc1, hc2, hc3⟩ := hc
  exact implMScale_any x1 x2 x3 x4 x5 x6 x7 x8 x9 x10 x11 x12 c1 c2 c3 hx1 hx2 hx3 hx4 hx5 hx6 hx7 hx8 hx9 hx10 hx11 hx12 hc1 hc2 hc3 w hl
theorem implMValid_T (x : F4) (w : World) (hx : i64M x) (hl : Laid w) : Calls Tryd.prog 11 #[.agg #[.int .i64 x.1.1, .int .i64 x.1.2.1, .int .i64 x.1.2.2, .int .i64 x.2.1.1, .int .i64 x.2.1.2.1, .int .i64 x.2.1.2.2, .int .i64 x.2.2.1.1, .int .i64 x.2.2.1.2.1, .int .i64 x.2.2.1.2.2, .int .i64 x.2.2.2.1, .int .i64 x.2.2.2.2.1, .int .i64 x.2.2.2.2.2]] w fun e w' => e = .returned (.bool (okM x)) ∧ Below w.heap.size w w' := by
  obtain ⟨⟨x1, x2, x3⟩, ⟨x4, x5, x6⟩, ⟨x7, x8, x9⟩, x10, x11, x12⟩ := x
  obtain ⟨⟨hx1, hx2, hx3⟩, ⟨hx4, hx5, hx6⟩, ⟨hx7, hx8, hx9⟩, hx10, hx11, hx12⟩ := hx
  exact implMValid_any x1 x2 x3 x4 x5 x6 x7 x8 x9 x10 x11 x12 hx1 hx2 hx3 hx4 hx5 hx6 hx7 hx8 hx9 hx10 hx11 hx12 w hl
theorem implTimes_T (u : F3) (v : F3) (w : World) (hu : i64T u) (hv : i64T v) (hl : Laid w) : Calls Tryd.prog 24 #[.agg #[.int .i64 u.1, .int .i64 u.2.1, .int .i64 u.2.2], .agg #[.int .i64 v.1, .int .i64 v.2.1, .int .i64 v.2.2]] w (Gave (tT u v) w) := by
  obtain ⟨u1, u2, u3⟩ := u
  obtain ⟨hu1, hu2, hu3⟩ := hu
  obtain ⟨v1, v2, v3⟩ := v
  obtain ⟨hv1, hv2, hv3⟩ := hv
  exact implTimes_any u1 u2 u3 v1 v2 v3 hu1 hu2 hu3 hv1 hv2 hv3 w hl
end Go.Proofs.YtiibnncanpohjaaDoor
