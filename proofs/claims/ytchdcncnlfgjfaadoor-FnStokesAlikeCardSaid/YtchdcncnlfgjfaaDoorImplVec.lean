/-
  The program's vectors: as arrays; told or not.
-/
import Derived.Test.YtchdcncnlfgjfaaDoorBMem
import Derived.Test.YtchdcncnlfgjfaaDoorBImplF
import Derived.Test.YtchdcncnlfgjfaaDoorBSpecV
namespace Go.Proofs.YtchdcncnlfgjfaaDoor
open Go.ChangeShapes Go.WideShapes Go.ChangeAt Go.RowKit
set_option linter.unusedVariables false

/-- A vector and no error, or the zero value and an error. -/
def Erred6 (o : Option ((Int × Int × Int) × (Int × Int × Int))) (w : World) (e : Ending) (w' : World) : Prop :=
  (∀ u1 u2 u3 v1 v2 v3, o = some ((u1, u2, u3), (v1, v2, v3)) → e = .returned (.tuple #[.agg #[.int .i64 u1, .int .i64 u2, .int .i64 u3, .int .i64 v1, .int .i64 v2, .int .i64 v3], .nilIface])) ∧ (o = none → ∃ s, e = .returned (.tuple #[.agg #[.int .i64 0, .int .i64 0, .int .i64 0, .int .i64 0, .int .i64 0, .int .i64 0], .iface 82 (.agg #[.string s])])) ∧ Below w.heap.size w w'
end Go.Proofs.YtchdcncnlfgjfaaDoor
