/-
  Comparison of the program's arrays of four.
-/
import Derived.Test.YtkdkeacfifjjoabDoorBLet
import Derived.Test.YtkdkeacfifjjoabDoorImplM1
namespace Go.Proofs.YtkdkeacfifjjoabDoor
open Go.ChangeShapes Go.WideShapes Go.ChangeAt Go.RowKit
set_option linter.unusedVariables false

theorem eqMx (a1 a2 a3 b1 b2 b3 c1 c2 c3 d1 d2 d3 i1 i2 i3 j1 j2 j3 k1 k2 k3 l1 l2 l3 : Int) : ∀ w, (Op.equalIn 10000 47 (.agg #[.int .i64 a1, .int .i64 a2, .int .i64 a3, .int .i64 b1, .int .i64 b2, .int .i64 b3, .int .i64 c1, .int .i64 c2, .int .i64 c3, .int .i64 d1, .int .i64 d2, .int .i64 d3]) (.agg #[.int .i64 i1, .int .i64 i2, .int .i64 i3, .int .i64 j1, .int .i64 j2, .int .i64 j3, .int .i64 k1, .int .i64 k2, .int .i64 k3, .int .i64 l1, .int .i64 l2, .int .i64 l3])).run Tryd.prog w = .ok (eqM4 ((a1, a2, a3), (b1, b2, b3), (c1, c2, c3), (d1, d2, d3)) ((i1, i2, i3), (j1, j2, j3), (k1, k2, k3), (l1, l2, l3))) w := by
  intro w
  have f3 := Tryd.isAgg27
  have z3 := Tryd.sizeOf27
  have E := eqFr 9996
  have E1 := eqFr 9997
  rw [show (10000 : Nat) = 9999 + 1 from rfl, Op.equalIn]
  simp only [Sem.run_bind, run_underlying Tryd.underlying47, Result.andThen_ok]
  simp only [Std.Legacy.Range.forIn_eq_forIn_range', Std.Legacy.Range.size, Nat.sub_zero, Nat.add_sub_cancel, Nat.div_one, List.range'_succ, List.range'_zero, List.forIn_cons, List.forIn_nil]
  have R : eqM4 ((a1, a2, a3), (b1, b2, b3), (c1, c2, c3), (d1, d2, d3)) ((i1, i2, i3), (j1, j2, j3), (k1, k2, k3), (l1, l2, l3)) = ((a1 == i1 && a2 == i2 && a3 == i3) && (b1 == j1 && b2 == j2 && b3 == j3) && (c1 == k1 && c2 == k2 && c3 == k3) && (d1 == l1 && d2 == l2 && d3 == l3)) := by
    rw [Bool.eq_iff_iff, eqM4_true]
    simp only [Prod.mk.injEq, Bool.and_eq_true, beq_iff_eq, and_assoc]
  rw [R]
  clear R
  go_simp
  repeat' split
  all_goals simp_all
end Go.Proofs.YtkdkeacfifjjoabDoor
