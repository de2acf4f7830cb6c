/-
  What the exact laws do with films: one layer, the length.
-/
import Derived.Test.YtkiggkmbgkonmaaGreatDoorOpenLays
import Derived.Test.YtkiggkmbgkonmaaGreatDoorBLawF
namespace Go.Proofs.YtkiggkmbgkonmaaGreatDoor
open Go.ChangeShapes Go.WideShapes Go.ChangeAt Go.RowKit
set_option linter.unusedVariables false

set_option linter.unusedSimpArgs false
end Go.Proofs.YtkiggkmbgkonmaaGreatDoor
