/-
  Comparison of arrays of two fractions.
-/
import Derived.Test.YtkdkeacfifjjoabGreatDoorBMem
import Derived.Laws.StructEq
import Derived.KernelRfl
namespace Go.Proofs.YtkdkeacfifjjoabGreatDoor
open Go.ChangeShapes Go.WideShapes Go.ChangeAt Go.RowKit
set_option linter.unusedVariables false

theorem eqFr (d : Nat) (a b c a' b' c' : Int) (w : World) : (Op.equalIn (d + 2) 28 (.agg #[.int .i64 a, .int .i64 b, .int .i64 c]) (.agg #[.int .i64 a', .int .i64 b', .int .i64 c'])).run Tryz.prog w = .ok (a == a' && b == b' && c == c') w := by
  have u3 := Tryz.underlying3
  have a3 := Tryz.isAgg3
  have z3 := Tryz.sizeOf3
  have hS : Tryz.prog.underlying 28 = some (.struct (Tryz.prog.fieldsOf 28)) := by kernel_rfl
  rw [show d + 2 = (d + 1) + 1 from rfl, run_equalIn_agg w (d + 1) 28 _ _ hS (by kernel_rfl)]
  simp only [Program.fieldsOf, Tryz.underlying28]
  go_simp
  by_cases h1 : a = a' <;> by_cases h2 : b = b' <;> by_cases h3 : c = c' <;> simp [h1, h2, h3]
theorem eqVec (x1 x2 x3 y1 y2 y3 a1 a2 a3 b1 b2 b3 : Int) (w : World) : (Op.equalIn 10000 75 (.agg #[.int .i64 x1, .int .i64 x2, .int .i64 x3, .int .i64 y1, .int .i64 y2, .int .i64 y3]) (.agg #[.int .i64 a1, .int .i64 a2, .int .i64 a3, .int .i64 b1, .int .i64 b2, .int .i64 b3])).run Tryz.prog w = .ok (x1 == a1 && x2 == a2 && x3 == a3 && (y1 == b1 && y2 == b2 && y3 == b3)) w := by
  have f3 := Tryz.isAgg28
  have z3 := Tryz.sizeOf28
  have E := eqFr 9997
  rw [show (10000 : Nat) = 9999 + 1 from rfl, Op.equalIn]
  simp only [Sem.run_bind, run_underlying Tryz.underlying75, Result.andThen_ok]
  simp only [Std.Legacy.Range.forIn_eq_forIn_range', Std.Legacy.Range.size, Nat.sub_zero, Nat.add_sub_cancel, Nat.div_one, List.range'_succ, List.range'_zero, List.forIn_cons, List.forIn_nil]
  go_simp
  by_cases h1 : x1 = a1 <;> by_cases h2 : x2 = a2 <;> by_cases h3 : x3 = a3 <;> by_cases h4 : y1 = b1 <;> by_cases h5 : y2 = b2 <;> by_cases h6 : y3 = b3 <;> simp [h1, h2, h3, h4, h5, h6]
end Go.Proofs.YtkdkeacfifjjoabGreatDoor
