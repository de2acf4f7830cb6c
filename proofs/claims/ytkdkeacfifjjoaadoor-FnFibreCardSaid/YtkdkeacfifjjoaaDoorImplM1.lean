/-
  The program's arrays of four: told or not, rows, columns.
-/
import Derived.Test.YtkdkeacfifjjoaaDoorImplVec4
import Derived.Test.YtkdkeacfifjjoaaDoorBMathA
import Derived.Deep.RegionHeld3
import Derived.KernelRfl
namespace Go.Proofs.YtkdkeacfifjjoaaDoor
open Go.ChangeShapes Go.WideShapes Go.ChangeAt Go.RowKit
set_option linter.unusedVariables false

/-- Four fractions and no error, or the zero value and an error. -/
def Erred12 (o : Option ((Int × Int × Int) × (Int × Int × Int) × (Int × Int × Int) × (Int × Int × Int))) (w : World) (e : Ending) (w' : World) : Prop :=
  (∀ a1 a2 a3 b1 b2 b3 c1 c2 c3 d1 d2 d3, o = some ((a1, a2, a3), (b1, b2, b3), (c1, c2, c3), (d1, d2, d3)) → e = .returned (.tuple #[.agg #[.int .i64 a1, .int .i64 a2, .int .i64 a3, .int .i64 b1, .int .i64 b2, .int .i64 b3, .int .i64 c1, .int .i64 c2, .int .i64 c3, .int .i64 d1, .int .i64 d2, .int .i64 d3], .nilIface])) ∧ (o = none → ∃ s, e = .returned (.tuple #[.agg #[.int .i64 0, .int .i64 0, .int .i64 0, .int .i64 0, .int .i64 0, .int .i64 0, .int .i64 0, .int .i64 0, .int .i64 0, .int .i64 0, .int .i64 0, .int .i64 0], .iface 55 (.agg #[.string s])])) ∧ Below w.heap.size w w'
end Go.Proofs.YtkdkeacfifjjoaaDoor
