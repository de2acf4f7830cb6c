/-
  Maps of four numbers in this program.
-/
import Derived.Test.YtdagcjohpmolpaaDoorMap
import Derived.Test.YtdagcjohpmolpaaDoorBMathA
import Derived.Test.YtdagcjohpmolpaaDoorBVec
namespace Go.Proofs.YtdagcjohpmolpaaDoor
open Go.ChangeShapes Go.WideShapes Go.ChangeAt Go.RowKit
set_option linter.unusedVariables false

/-- Four numbers as a map, and no error; or no map, and an error. -/
def ErredM (o : Option ((Int × Int × Int) × (Int × Int × Int) × (Int × Int × Int) × (Int × Int × Int))) (w : World) (e : Ending) (w' : World) : Prop :=
  (∀ a1 a2 a3 b1 b2 b3 c1 c2 c3 d1 d2 d3, o = some ((a1, a2, a3), (b1, b2, b3), (c1, c2, c3), (d1, d2, d3)) → ∃ B, w.heap.size ≤ B ∧ e = .returned (.tuple #[.map (some B), .nilIface]) ∧ Mp w' B [.agg #[.int .i64 a1, .int .i64 a2, .int .i64 a3], .agg #[.int .i64 b1, .int .i64 b2, .int .i64 b3], .agg #[.int .i64 c1, .int .i64 c2, .int .i64 c3], .agg #[.int .i64 d1, .int .i64 d2, .int .i64 d3]]) ∧ (o = none → ∃ s, e = .returned (.tuple #[.map none, .iface 75 (.agg #[.string s])])) ∧ Below w.heap.size w w'
end Go.Proofs.YtdagcjohpmolpaaDoor
