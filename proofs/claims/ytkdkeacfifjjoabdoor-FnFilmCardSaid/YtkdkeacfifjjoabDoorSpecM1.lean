/-
  The model: matrices: valid, products, adjoints, multiples.
-/
import Derived.Test.YtkdkeacfifjjoabDoorBMathA
import Derived.Test.YtkdkeacfifjjoabDoorBSpecV
import Derived.Test.YtkdkeacfifjjoabDoorSpecS1
namespace Go.Proofs.YtkdkeacfifjjoabDoor
open Go.ChangeShapes Go.WideShapes Go.ChangeAt Go.RowKit
set_option linter.unusedVariables false

end Go.Proofs.YtkdkeacfifjjoabDoor
