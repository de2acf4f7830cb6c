/-
  The model: matrices: valid, products, adjoints, multiples.
-/
import Derived.Test.YtkiggkmbgkonmabDoorBMathA
import Derived.Test.YtkiggkmbgkonmabDoorBSpecV
import Derived.Test.YtkiggkmbgkonmabDoorSpecS1
namespace Go.Proofs.YtkiggkmbgkonmabDoor
open Go.ChangeShapes Go.WideShapes Go.ChangeAt Go.RowKit
set_option linter.unusedVariables false

end Go.Proofs.YtkiggkmbgkonmabDoor
