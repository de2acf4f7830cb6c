/-
  The program's closures of matrices: vectors, filters.
-/
import Derived.Test.YtkdkeacfifjjoabDoorImplM1
import Derived.Deep.RegionHeld3
namespace Go.Proofs.YtkdkeacfifjjoabDoor
open Go.ChangeShapes Go.WideShapes Go.ChangeAt Go.RowKit
set_option linter.unusedVariables false

end Go.Proofs.YtkdkeacfifjjoabDoor
