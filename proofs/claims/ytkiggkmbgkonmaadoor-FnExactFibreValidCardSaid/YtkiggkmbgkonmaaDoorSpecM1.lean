/-
  The model: matrices: valid, products, adjoints, multiples.
-/
import Derived.Test.YtkiggkmbgkonmaaDoorBMathA
import Derived.Test.YtkiggkmbgkonmaaDoorBSpecV
import Derived.Test.YtkiggkmbgkonmaaDoorSpecS1
namespace Go.Proofs.YtkiggkmbgkonmaaDoor
open Go.ChangeShapes Go.WideShapes Go.ChangeAt Go.RowKit
set_option linter.unusedVariables false

end Go.Proofs.YtkiggkmbgkonmaaDoor
