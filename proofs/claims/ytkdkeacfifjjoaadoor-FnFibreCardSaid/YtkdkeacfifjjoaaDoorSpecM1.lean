/-
  The model: matrices: valid, products, adjoints, multiples.
-/
import Derived.Test.YtkdkeacfifjjoaaDoorBMathA
import Derived.Test.YtkdkeacfifjjoaaDoorBSpecV
import Derived.Test.YtkdkeacfifjjoaaDoorSpecS1
namespace Go.Proofs.YtkdkeacfifjjoaaDoor
open Go.ChangeShapes Go.WideShapes Go.ChangeAt Go.RowKit
set_option linter.unusedVariables false

end Go.Proofs.YtkdkeacfifjjoaaDoor
