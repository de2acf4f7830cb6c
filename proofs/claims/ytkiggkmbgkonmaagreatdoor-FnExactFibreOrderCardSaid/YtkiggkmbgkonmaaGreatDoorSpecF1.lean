/-
  The model: films: valid, a layer's matrix.
-/
import Derived.Test.YtkiggkmbgkonmaaGreatDoorBFib
import Derived.Test.YtkiggkmbgkonmaaGreatDoorSpecM3
import Derived.Test.YtkiggkmbgkonmaaGreatDoorSpecM5
import Derived.Test.YtkiggkmbgkonmaaGreatDoorBSpecF
namespace Go.Proofs.YtkiggkmbgkonmaaGreatDoor
open Go.ChangeShapes Go.WideShapes Go.ChangeAt Go.RowKit
set_option linter.unusedVariables false

set_option linter.unusedSimpArgs false
end Go.Proofs.YtkiggkmbgkonmaaGreatDoor
