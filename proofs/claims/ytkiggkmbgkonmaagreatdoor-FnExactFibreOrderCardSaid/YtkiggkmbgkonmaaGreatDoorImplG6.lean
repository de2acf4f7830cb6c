/-
  The program: FibreMat.
-/
import Derived.Test.YtkiggkmbgkonmaaGreatDoorImplG5
import Derived.Test.YtkiggkmbgkonmaaGreatDoorImplG3
import Derived.Test.YtkiggkmbgkonmaaGreatDoorBImplF
namespace Go.Proofs.YtkiggkmbgkonmaaGreatDoor
open Go.ChangeShapes Go.WideShapes Go.ChangeAt Go.RowKit
set_option linter.unusedVariables false

set_option linter.unusedSimpArgs false
end Go.Proofs.YtkiggkmbgkonmaaGreatDoor
