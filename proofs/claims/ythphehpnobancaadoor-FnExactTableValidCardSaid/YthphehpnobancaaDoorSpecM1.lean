/-
  The model: matrices: valid, products, adjoints, multiples.
-/
import Derived.Test.YthphehpnobancaaDoorBMath
import Derived.Test.YthphehpnobancaaDoorBSpecV
import Derived.Test.YthphehpnobancaaDoorSpecS1
namespace Go.Proofs.YthphehpnobancaaDoor
open Go.ChangeShapes Go.WideShapes Go.ChangeAt Go.RowKit
set_option linter.unusedVariables false

end Go.Proofs.YthphehpnobancaaDoor
