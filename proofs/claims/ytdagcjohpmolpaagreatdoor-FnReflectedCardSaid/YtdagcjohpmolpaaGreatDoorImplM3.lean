/-
  The program's exported functions of matrices.
-/
import Derived.Test.YtdagcjohpmolpaaGreatDoorImplM2
import Derived.Test.YtdagcjohpmolpaaGreatDoorBVec
namespace Go.Proofs.YtdagcjohpmolpaaGreatDoor
open Go.ChangeShapes Go.WideShapes Go.ChangeAt Go.RowKit
set_option linter.unusedVariables false

end Go.Proofs.YtdagcjohpmolpaaGreatDoor
