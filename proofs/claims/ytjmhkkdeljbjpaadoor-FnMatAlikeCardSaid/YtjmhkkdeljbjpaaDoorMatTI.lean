/-
  The program's matrices, one letter a value.
-/
import Derived.Test.YtjmhkkdeljbjpaaDoorBLet
import Derived.Test.YtjmhkkdeljbjpaaDoorImplM3
import Derived.Test.YtjmhkkdeljbjpaaDoorBImplF
namespace Go.Proofs.YtjmhkkdeljbjpaaDoor
open Go.ChangeShapes Go.WideShapes Go.ChangeAt Go.RowKit
set_option linter.unusedVariables false

theorem implMApply_T (x : F4) (v : F3 × F3) (w : World) (hx : i64M x) (hv : i64J v) (hl : Laid w) : Calls Tryd.prog 9 #[.agg #[.int .i64 x.1.1, .int .i64 x.1.2.1, .int .i64 x.1.2.2, .int .i64 x.2.1.1, .int .i64 x.2.1.2.1, .int .i64 x.2.1.2.2, .int .i64 x.2.2.1.1, .int .i64 x.2.2.1.2.1, .int .i64 x.2.2.1.2.2, .int .i64 x.2.2.2.1, .int .i64 x.2.2.2.2.1, .int .i64 x.2.2.2.2.2], .agg #[.int .i64 v.1.1, .int .i64 v.1.2.1, .int .i64 v.1.2.2, .int .i64 v.2.1, .int .i64 v.2.2.1, .int .i64 v.2.2.2]] w (Gave6 (appM x v) w) := by
  obtain ⟨⟨x1, x2, x3⟩, ⟨x4, x5, x6⟩, ⟨x7, x8, x9⟩, x10, x11, x12⟩ := x
  obtain ⟨⟨hx1, hx2, hx3⟩, ⟨hx4, hx5, hx6⟩, ⟨hx7, hx8, hx9⟩, hx10, hx11, hx12⟩ := hx
  obtain ⟨⟨v1, v2, v3⟩, v4, v5, v6⟩ := v
  obtain ⟨⟨hv1, hv2, hv3⟩, hv4, hv5, hv6⟩ := hv
  exact implMApply_any x1 x2 x3 x4 x5 x6 x7 x8 x9 x10 x11 x12 v1 v2 v3 v4 v5 v6 hx1 hx2 hx3 hx4 hx5 hx6 hx7 hx8 hx9 hx10 hx11 hx12 hv1 hv2 hv3 hv4 hv5 hv6 w hl
theorem implTimes_T (u : F3) (v : F3) (w : World) (hu : i64T u) (hv : i64T v) (hl : Laid w) : Calls Tryd.prog 10 #[.agg #[.int .i64 u.1, .int .i64 u.2.1, .int .i64 u.2.2], .agg #[.int .i64 v.1, .int .i64 v.2.1, .int .i64 v.2.2]] w (Gave (tT u v) w) := by
  obtain ⟨u1, u2, u3⟩ := u
  obtain ⟨hu1, hu2, hu3⟩ := hu
  obtain ⟨v1, v2, v3⟩ := v
  obtain ⟨hv1, hv2, hv3⟩ := hv
  exact implTimes_any u1 u2 u3 v1 v2 v3 hu1 hu2 hu3 hv1 hv2 hv3 w hl
end Go.Proofs.YtjmhkkdeljbjpaaDoor
