/-
  The program's closures of matrices: vectors, filters.
-/
import Derived.Test.YtkiggkmbgkonmaaGreatDoorImplM1
import Derived.Deep.RegionHeld3
namespace Go.Proofs.YtkiggkmbgkonmaaGreatDoor
open Go.ChangeShapes Go.WideShapes Go.ChangeAt Go.RowKit
set_option linter.unusedVariables false

end Go.Proofs.YtkiggkmbgkonmaaGreatDoor
