/-
  The program's exported functions of matrices.
-/
import Derived.Test.YtkdkeacfifjjoabDoorImplM2
import Derived.Test.YtkdkeacfifjjoabDoorBVec
namespace Go.Proofs.YtkdkeacfifjjoabDoor
open Go.ChangeShapes Go.WideShapes Go.ChangeAt Go.RowKit
set_option linter.unusedVariables false

end Go.Proofs.YtkdkeacfifjjoabDoor
