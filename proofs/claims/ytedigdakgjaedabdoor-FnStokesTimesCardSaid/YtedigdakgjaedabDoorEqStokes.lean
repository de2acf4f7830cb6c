/-
  Comparison of the same four numbers.
-/
import Derived.Test.YtedigdakgjaedabDoorEqVec
import Derived.Test.YtedigdakgjaedabDoorStokesDef
namespace Go.Proofs.YtedigdakgjaedabDoor
open Go.ChangeShapes Go.WideShapes Go.ChangeAt Go.RowKit
set_option linter.unusedVariables false

theorem eqArrSame (d : Nat) (a1 a2 a3 b1 b2 b3 c1 c2 c3 d1 d2 d3 : Int) (w : World) : (Op.equalIn (d + 4) 30 (.agg #[.int .i64 a1, .int .i64 a2, .int .i64 a3, .int .i64 b1, .int .i64 b2, .int .i64 b3, .int .i64 c1, .int .i64 c2, .int .i64 c3, .int .i64 d1, .int .i64 d2, .int .i64 d3]) (.agg #[.int .i64 a1, .int .i64 a2, .int .i64 a3, .int .i64 b1, .int .i64 b2, .int .i64 b3, .int .i64 c1, .int .i64 c2, .int .i64 c3, .int .i64 d1, .int .i64 d2, .int .i64 d3])).run Tryd.prog w = .ok true w := by
  have f3 := Tryd.isAgg24
  have z3 := Tryd.sizeOf24
  have E := eqFr d
  have E1 := eqFr (d + 1)
  rw [show d + 4 = (d + 3) + 1 from rfl, Op.equalIn]
  simp only [Sem.run_bind, run_underlying Tryd.underlying30, Result.andThen_ok]
  simp only [Std.Legacy.Range.forIn_eq_forIn_range', Std.Legacy.Range.size, Nat.sub_zero, Nat.add_sub_cancel, Nat.div_one, List.range'_succ, List.range'_zero, List.forIn_cons, List.forIn_nil]
  go_simp
theorem eqStSame (a1 a2 a3 b1 b2 b3 c1 c2 c3 d1 d2 d3 : Int) : ∀ w, (Op.equalIn 10000 32 (.agg #[.int .i64 a1, .int .i64 a2, .int .i64 a3, .int .i64 b1, .int .i64 b2, .int .i64 b3, .int .i64 c1, .int .i64 c2, .int .i64 c3, .int .i64 d1, .int .i64 d2, .int .i64 d3]) (.agg #[.int .i64 a1, .int .i64 a2, .int .i64 a3, .int .i64 b1, .int .i64 b2, .int .i64 b3, .int .i64 c1, .int .i64 c2, .int .i64 c3, .int .i64 d1, .int .i64 d2, .int .i64 d3])).run Tryd.prog w = .ok true w := by
  intro w
  have ag3 := Tryd.isAgg30
  have sz3 := Tryd.sizeOf30
  have E := eqArrSame 9995 a1 a2 a3 b1 b2 b3 c1 c2 c3 d1 d2 d3
  rw [show 9995 + 4 = 9999 from rfl] at E
  have hS : Tryd.prog.underlying 32 = some (.struct (Tryd.prog.fieldsOf 32)) := by kernel_rfl
  rw [show (10000 : Nat) = 9999 + 1 from rfl, run_equalIn_agg w 9999 32 _ _ hS (by kernel_rfl)]
  simp only [Program.fieldsOf, Tryd.underlying32]
  go_simp
end Go.Proofs.YtedigdakgjaedabDoor
