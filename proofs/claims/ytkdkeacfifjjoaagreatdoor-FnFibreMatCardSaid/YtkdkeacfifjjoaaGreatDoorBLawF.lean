/-
  What the exact laws do with fractions and vectors.
-/
import Derived.Test.YtkdkeacfifjjoaaGreatDoorBMem
namespace Go.Proofs.YtkdkeacfifjjoaaGreatDoor
open Go.ChangeShapes Go.WideShapes Go.ChangeAt Go.RowKit
set_option linter.unusedVariables false

end Go.Proofs.YtkdkeacfifjjoaaGreatDoor
