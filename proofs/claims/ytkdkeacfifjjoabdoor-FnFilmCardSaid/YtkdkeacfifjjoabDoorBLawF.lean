/-
  What the exact laws do with fractions and vectors.
-/
import Derived.Test.YtkdkeacfifjjoabDoorBMem
namespace Go.Proofs.YtkdkeacfifjjoabDoor
open Go.ChangeShapes Go.WideShapes Go.ChangeAt Go.RowKit
set_option linter.unusedVariables false

end Go.Proofs.YtkdkeacfifjjoabDoor
