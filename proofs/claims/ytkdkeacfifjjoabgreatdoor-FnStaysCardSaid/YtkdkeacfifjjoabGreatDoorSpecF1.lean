/-
  The model: films: valid, a layer's matrix.
-/
import Derived.Test.YtkdkeacfifjjoabGreatDoorBFib
import Derived.Test.YtkdkeacfifjjoabGreatDoorSpecM3
import Derived.Test.YtkdkeacfifjjoabGreatDoorSpecM5
import Derived.Test.YtkdkeacfifjjoabGreatDoorBSpecF
namespace Go.Proofs.YtkdkeacfifjjoabGreatDoor
open Go.ChangeShapes Go.WideShapes Go.ChangeAt Go.RowKit
set_option linter.unusedVariables false

set_option linter.unusedSimpArgs false
end Go.Proofs.YtkdkeacfifjjoabGreatDoor
