/-
  What the exact laws do with fractions and vectors.
-/
import Derived.Test.YtkdkeacfifjjoabGreatDoorBMem
namespace Go.Proofs.YtkdkeacfifjjoabGreatDoor
open Go.ChangeShapes Go.WideShapes Go.ChangeAt Go.RowKit
set_option linter.unusedVariables false

end Go.Proofs.YtkdkeacfifjjoabGreatDoor
