/-
  A beat, told.
-/
import Derived.Test.YtkiggkmbgkonmabDoorBFib
namespace Go.Proofs.YtkiggkmbgkonmabDoor
open Go.ChangeShapes Go.WideShapes Go.ChangeAt Go.RowKit
set_option linter.unusedVariables false

set_option linter.unusedSimpArgs false
/-- A section's beat, told. -/
def beatV (n1 n2 n3 q : Int) : Value := .tuple #[.int .i64 (if okS ((n1, n2, n3), q) = true then beatI n3 else 0), .bool (okS ((n1, n2, n3), q))]
end Go.Proofs.YtkiggkmbgkonmabDoor
