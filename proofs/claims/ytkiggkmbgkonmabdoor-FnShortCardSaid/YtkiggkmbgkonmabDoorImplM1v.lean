/-
  The program's closures of matrices: vectors, filters.
-/
import Derived.Test.YtkiggkmbgkonmabDoorImplM1
import Derived.Deep.RegionHeld3
namespace Go.Proofs.YtkiggkmbgkonmabDoor
open Go.ChangeShapes Go.WideShapes Go.ChangeAt Go.RowKit
set_option linter.unusedVariables false

end Go.Proofs.YtkiggkmbgkonmabDoor
