/-
  The program's exported functions of matrices.
-/
import Derived.Test.YtkdkeacfifjjoabGreatDoorImplM2
import Derived.Test.YtkdkeacfifjjoabGreatDoorBVec
namespace Go.Proofs.YtkdkeacfifjjoabGreatDoor
open Go.ChangeShapes Go.WideShapes Go.ChangeAt Go.RowKit
set_option linter.unusedVariables false

end Go.Proofs.YtkdkeacfifjjoabGreatDoor
